/- DERIVED. The reference's Rot; the walk of the law on turns. By an AI agent. -/
import Derived.Test.YtbkfhclmlpdmeaaDoorTwice
import Derived.Test.YtbkfhclmlpdmeaaDoorRef
import Derived.StillTactics
import Derived.Laws.Pointers
import Derived.Deep.RegionHeld3
import Derived.Deep.AppendLies
import Derived.WalkSpells
namespace Go.Proofs.YtbkfhclmlpdmeaaDoor.Ref
open Go.ChangeShapes Go.WideShapes Go.ChangeAt Go.RowKit WMath Word
set_option linter.unusedVariables false
theorem bvals_one (l : List Bool) : ∀ x ∈ bvals l, x.oneCell' = true := by
  intro x hx
  obtain ⟨y, _, rfl⟩ := List.mem_map.1 hx
  rfl
theorem rot1_zero (a : BitVec 32) (k : Nat) : (a.rotateLeft (k + 1)).getLsbD 0 = (a.rotateLeft k).getLsbD 31 := by
  rw [rot_get _ _ _ (by decide), rot_get _ _ _ (by decide)]
  congr 1; omega
theorem rot1_succ (a : BitVec 32) (k j : Nat) (hj : j < 31) : (a.rotateLeft (k + 1)).getLsbD (j + 1) = (a.rotateLeft k).getLsbD j := by
  rw [rot_get _ _ _ (by omega), rot_get _ _ _ (by omega)]
  congr 1; omega
theorem rot_zero (a : BitVec 32) (j : Nat) (hj : j < 32) : (a.rotateLeft 0).getLsbD j = a.getLsbD j := by
  rw [rot_get _ _ _ hj]
  congr 1; omega
set_option maxRecDepth 100000 in
set_option maxHeartbeats 1600000 in
theorem rrotC (a : BitVec 32) (n : Nat) (hn : n < 4294967296) (w : World) : Calls Tryd.prog 15 #[u a, .int .u32 n] w fun e w' => e = .returned (u (a.rotateLeft n)) ∧ Below w.heap.size w w' := by
  obtain ⟨i0, hi0, hz0, hz1, hz2⟩ := info_parts infoB
  have hr := rot_rot a (n % 32) 0 n (by omega)
  go_enter Tryd.func15, Tryd.ntmps15
  go_wp2_with fail
  refine (bitsC a _).mono ?_; rintro e w2 ⟨g2, cap2, rfl, hcap2, hmx2, hg2, hs2, hc2, hb2⟩
  have HC2 := Lib.hid hc2
  have HB2 := Lib.hid hb2
  have HR := Lib.hid hr
  clear hc2 hb2 hr
  go_wp2
  go_loopw [5, 6] (fun v vi wr => ∃ (k g cap : Nat), k ≤ n % 32 ∧ vi = .int .u32 k ∧ v = .slice (some ⟨g, 0, none⟩) 32 cap ∧ 32 ≤ cap ∧ g < wr.heap.size ∧ Hid (∀ j, j < 32 → wr.cell? ⟨g, j, none⟩ = some (.bool ((a.rotateLeft k).getLsbD j))) ∧ Below w.heap.size w wr) (fun _ vi _ => 32 - (intOf vi).toNat)
  case atStart => exact ⟨0, g2, cap2, by omega, rfl, rfl, hcap2, hs2, Lib.hid (fun j hj => by rw [rot_zero a j hj]; exact HC2.out j hj), HB2.out⟩
  case round =>
    obtain ⟨k, g, cap, hk, rfl, rfl, hcap, hg, HC, hb⟩ := hrel
    have HB := Lib.hid hb
    have hsz := hb.size
    clear hb HC2 HB2
    by_cases hlt : k < n % 32
    · have q := HC.out 31 (by decide)
      have z0 := rot1_zero a k
      generalize (a.rotateLeft k).getLsbD 31 = t at q z0
      have Z0 := Lib.hid z0
      clear z0
      have hn31 : Hid (∀ (o : Obj) (j : Nat) (x : Value), (bvals (bitsTo (a.rotateLeft k) 31))[j]? = some x → (wr.alloc o).cell? ((⟨g, 0, none⟩ : Addr).add j) = some x) := Lib.hid (fun o j x hx => by
        have hj : j < 31 := by
          have := (List.getElem?_eq_some_iff.1 hx).1
          simpa [bvals, bitsTo_len] using this
        have e : (⟨g, 0, none⟩ : Addr).add j = ⟨g, j, none⟩ := by unfold Addr.add; split <;> simp_all
        rw [e, World.cell?_alloc_lt wr o ⟨_, _, _⟩ hg, HC.out j (by omega), ← hx]
        simp [bvals, bitsTo, hj])
      have ag : (Value.slice (some ⟨wr.heap.size, 0, none⟩) 1 1).ownBlock ≠ some g := by intro h; have h2 : wr.heap.size = g := Option.some.inj h; omega
      have c31 : (31 : Int) ≤ (cap : Int) := by omega
      have c32 : (0 : Int) ≤ (cap : Int) := by omega
      go_wp2_with fail
      go_region_held3 (fun w' => w'.cell? ⟨g, 31, none⟩ = some (.bool t))
        (first
          | go_keep
          | (rw [hgrow.cell_far _ (by simp; omega) (Ne.symm ag)]; assumption))
        ((refine step_append_lies _ (by rfl) _ _ _ (by rfl) wr.heap.size 4 i0 _ 1 1 Tryd.underlying44 hi0 hz0 hz1 hz2 rfl (by omega) (.slice (some ⟨wr.heap.size, 0, none⟩) 1 1) 1 [.bool t] (by rfl) ((World.ownsRow_lit wr #[.bool t] 1 (Nat.le_refl _) (by decide) rfl).drew)
              ⟨g, 0, none⟩ 31 cap (bvals (bitsTo (a.rotateLeft k) 31)) (by rfl) (by simp [bvals, bitsTo_len]) (by exact hn31.out _) (bvals_one _) (by omega) (by decide) (by omega) (by simp) (wr.heap.size + 1) (by simp) ?_; intro gg cap' w1 hown1 hgrow hat hlt1))
      go_wp2_with fail
      go_roundw
      case rel =>
        have hbel : Below w.heap.size w w1 := ((HB.out.alloc hsz _).drew.grown (row := some wr.heap.size) hgrow (by simp; omega) (fun q hq => by have := Option.some.inj hq; omega))
        refine ⟨k + 1, gg, cap', by omega, by go_num, rfl, ?_, hlt1, Lib.hid (fun j hj => ?_), hbel⟩
        · rcases hown1.2 with ⟨h0, _⟩ | ⟨g9, cap9, cur, h9, _, _, h99, _, _, _⟩
          · cases h0
          · cases h9; exact h99
        · rw [World.ownsRow.cellAt hown1 j (by omega)]
          cases j with
          | zero => rw [Z0.out]; rfl
          | succ j =>
            rw [rot1_succ a k j (by omega)]
            have hj' : j < 31 := by omega
            simp [bvals, bitsTo, hj']
      case measure => simp [intOf]; omega
    · go_wp2_with fail
      have : k = n % 32 := by omega
      have hR := HR.out
      have hw := wordC (a.rotateLeft (n % 32)) g cap wr hcap (fun j hj => by rw [← this]; exact HC.out j hj)
      have e2 : a.rotateLeft (n % 32) = a.rotateLeft n := by
        apply BitVec.eq_of_getLsbD_eq; intro i hi
        rw [rot_get _ _ _ hi, rot_get _ _ _ hi, Nat.mod_mod]
      rw [e2] at hw
      clear e2 hR HR
      refine hw.mono ?_; rintro e w' ⟨rfl, rfl⟩
      go_wp2_with fail
      go_ret
      exact ⟨rfl, HB.out⟩
end Go.Proofs.YtbkfhclmlpdmeaaDoor.Ref
namespace Go.Proofs.YtbkfhclmlpdmeaaDoor
open Go.ChangeShapes Go.WideShapes Go.ChangeAt Go.RowKit WMath Word Lives Ref
set_option linter.unusedVariables false
set_option maxHeartbeats 800000 in
theorem wordTurns.walk (a0 : Int) (w0 : (Lit.int .u32 a0).wf = true) (a1 : Int) (w1 : (Lit.int .u32 a1).wf = true) (W : World) (hL : Lv W) :
    Calls Tryd.prog 4 #[.int .u32 a0, .int .u32 a1] W fun e w' => e = .returned (.bool true) ∧ Below W.heap.size W w' := by
  obtain ⟨a, rfl⟩ := word_wf a0 w0
  have b1 := bounds_u32 w1
  obtain ⟨n, rfl⟩ := Int.eq_ofNat_of_zero_le b1.1
  have hn : n < 4294967296 := by omega
  have HL := Lib.hid hL
  clear hL w0 w1 b1
  have h1 := bd a
  have c1 := rot a n hn; have c2 := rrotC a n hn
  have e1 := rot_rot a n (32 - n % 32) 0 (by omega)
  have e2 : a.rotateLeft 0 = a := by
    apply BitVec.eq_of_getLsbD_eq; intro i hi
    exact rot_zero a i hi
  rw [e2] at e1
  generalize a.rotateLeft n = x at c1 c2 e1
  have c3 := rot x (32 - n % 32) (by omega)
  rw [e1] at c3
  have h2 := bd x
  have C1 := Lib.hid c1; have C2 := Lib.hid c2; have C3 := Lib.hid c3
  clear c1 c2 c3 e1 e2
  go_enter Tryd.func4, Tryd.ntmps4
  go_wp2_with fail
  refine (C1.out _).mono ?_; rintro e w' ⟨rfl, rfl⟩
  go_wp2_with fail
  refine (C2.out _).mono ?_; rintro e w1 ⟨rfl, hb1⟩
  go_wp2_with fail
  rw [show ((32 : Int) - (n : Int) % 32) = ((32 - n % 32 : Nat) : Int) by omega]
  refine (C3.out _).mono ?_; rintro e w' ⟨rfl, rfl⟩
  go_wp2_with (go_at_call 13; refine (lives _ (HL.out.below hb1)).mono ?_; rintro e w' ⟨rfl, hb⟩)
  go_ret
  exact ⟨rfl, hb1.trans (hb.mono hb1.size)⟩
end Go.Proofs.YtbkfhclmlpdmeaaDoor
