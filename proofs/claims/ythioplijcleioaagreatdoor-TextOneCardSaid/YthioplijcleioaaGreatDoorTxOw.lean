/- DERIVED. The walk of TextOne. By an AI agent. -/
import Derived.Test.YthioplijcleioaaGreatDoorTxLs
import Derived.Test.YthioplijcleioaaGreatDoorTxLv
import Derived.Test.YthioplijcleioaaGreatDoorTxLaidz
namespace Go.Proofs.YthioplijcleioaaGreatDoor.textOne
open Go.ChangeShapes Go.WideShapes Go.ChangeAt Go.RowKit Go.Lib Go.Sort Args Tx
set_option linter.unusedVariables false
theorem lies1 {W : World} {b : Nat} {z : Nat} (h : W.cell? ⟨b, 0, none⟩ = some (.int .u16 (z : Int))) : Lies W (some ⟨b, 0, none⟩) ([z].map fun z : Nat => Value.int .u16 (z : Int)) := fun j u hj => by
  match j, hj with
  | 0, hj => simp at hj; subst hj; exact ⟨_, rfl, by simpa [Addr.add] using h⟩
set_option maxRecDepth 100000 in
set_option maxHeartbeats 4000000 in
theorem walk (W : World) (a : Int) (wa : (Lit.int .u16 a).wf = true) (b : Int) (wb : (Lit.int .u16 b).wf = true) (hL : Lz W) :
    Calls Tryz.prog 4 #[.int .u16 a, .int .u16 b] W fun e w' => e = .returned (.bool true) ∧ Below W.heap.size W w' := by
  have ba := bounds_u16 wa
  have bb := bounds_u16 wb
  obtain ⟨x, rfl⟩ := Int.eq_ofNat_of_zero_le ba.1
  obtain ⟨y, rfl⟩ := Int.eq_ofNat_of_zero_le bb.1
  have hx : x < 65536 := by omega
  have hy : y < 65536 := by omega
  have hlx : ∀ n w, Lz w → w.cell? ⟨n, 0, none⟩ = some (.int .u16 (x : Int)) → Calls Tryz.prog 5 #[.slice (some ⟨n, 0, none⟩) 1 1] w fun e w' => e = .returned (.string ⟨(listL [x]).toArray⟩) ∧ Below w.heap.size w w' := fun n w h1 h2 => listC (some ⟨n, 0, none⟩) 1 [x] (by simpa using hx) (by simp) w h1 (lies1 h2)
  have hly : ∀ n w, Lz w → w.cell? ⟨n, 0, none⟩ = some (.int .u16 (y : Int)) → Calls Tryz.prog 5 #[.slice (some ⟨n, 0, none⟩) 1 1] w fun e w' => e = .returned (.string ⟨(listL [y]).toArray⟩) ∧ Below w.heap.size w w' := fun n w h1 h2 => listC (some ⟨n, 0, none⟩) 1 [y] (by simpa using hy) (by simp) w h1 (lies1 h2)
  have hone : (listL [x] == listL [y]) = ((x : Int) == (y : Int)) := by
    by_cases h : x = y
    · subst h; simp
    · have h1 : listL [x] ≠ listL [y] := fun he => h (line_inj hx hy (by
        have : lineL x ++ [10] = lineL y ++ [10] := he
        exact List.append_cancel_right this))
      have h2 : ¬ (x : Int) = (y : Int) := by omega
      rw [beq_eq_false_iff_ne.2 h1, beq_eq_false_iff_ne.2 h2]
  have HX := Lib.hid hlx; have HY := Lib.hid hly; have HO := Lib.hid hone; have HL := Lib.hid hL
  clear hlx hly hone hL wa wb ba bb
  generalize listL [x] = TX at *
  generalize listL [y] = TY at *
  go_enter Tryz.func4, Tryz.ntmps4
  go_wp2_with fail
  refine (HX.out _ _ (HL.out.below ?_) ?_).mono ?_
  case refine_1 => exact ((Below.refl _ _).alloc (Nat.le_refl _) _)
  case refine_2 => exact World.cell?_alloc_at _ _ _ _ rfl
  rintro e w1 ⟨rfl, hb1⟩
  have HB := Lib.hid (((Below.refl W.heap.size W).alloc (Nat.le_refl _) (.cells #[.int .u16 (x : Int)] 30)).trans (hb1.mono (by simp)))
  clear hb1
  go_wp2_with fail
  refine (HY.out _ _ (HL.out.below ?_) ?_).mono ?_
  case refine_1 => exact (HB.out.alloc HB.out.size _)
  case refine_2 => exact World.cell?_alloc_at _ _ _ _ rfl
  rintro e w2 ⟨rfl, hb2⟩
  have HB2 := Lib.hid ((HB.out.alloc HB.out.size (.cells #[.int .u16 (y : Int)] 30)).trans (hb2.mono (by have := HB.out.size; simp; omega)))
  clear hb2
  have hone := HO.out
  go_wp2_with fail
  refine (Tx.lives _ (HL.out.lw.below HB2.out)).mono ?_
  rintro e w5 ⟨rfl, hb5⟩
  go_wp2_with fail
  go_ret
  exact ⟨rfl, HB2.out.trans (hb5.mono HB2.out.size)⟩
end Go.Proofs.YthioplijcleioaaGreatDoor.textOne
