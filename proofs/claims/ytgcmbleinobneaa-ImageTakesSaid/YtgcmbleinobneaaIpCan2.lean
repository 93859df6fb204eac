/- DERIVED. The contract of the program's Can. By an AI agent. -/
import Derived.Test.YtgcmbleinobneaaIpCan
namespace Go.Proofs.Ytgcmbleinobneaa.Ip
open Go.ChangeShapes Go.WideShapes Go.ChangeAt Go.RowKit Args ImRef
set_option linter.unusedVariables false
def okN (n : Int) : Bool := decide (0 ≤ n) && decide (n ≤ 2147483647)
def okW (n : Int) : Bool := decide (0 ≤ n) && decide (n ≤ 16000)
theorem canM_eq (m : Man) : canM m = ([m.o, m.s, m.r].all okN && [m.se, m.pu, m.ou].all cellsB && okW m.w) := by
  unfold canM numsB okW
  simp only [List.all_cons, List.all_nil, Bool.and_true, okN]
  cases decide (0 ≤ m.o) <;> cases decide (m.o ≤ 2147483647) <;> cases decide (0 ≤ m.s) <;> cases decide (m.s ≤ 2147483647) <;> cases decide (0 ≤ m.r) <;> cases decide (m.r ≤ 2147483647) <;> cases decide (0 ≤ m.w) <;> cases decide (m.w ≤ 16000) <;> simp [Bool.and_assoc]
theorem all_take' {α : Type} (p : α → Bool) (l : List α) (k : Nat) (x : α) (h : l[k]? = some x) : (l.take (k + 1)).all p = ((l.take k).all p && p x) := by
  obtain ⟨hk, rfl⟩ := List.getElem?_eq_some_iff.1 h
  rw [List.take_succ_eq_append_getElem hk, List.all_append]; simp
theorem all_false {α : Type} (p : α → Bool) (l : List α) (k : Nat) (x : α) (h : l[k]? = some x) (hx : p x = false) : l.all p = false := by
  have hm : x ∈ l := List.mem_of_getElem? h
  cases hb : l.all p
  · rfl
  · exact absurd (List.all_eq_true.1 hb x hm) (by simp [hx])
/-- A list of cells as it lies: where, with how much room. -/
structure Lst where
  A : Option Addr
  c : Nat
  l : List TI
abbrev Lst.v (x : Lst) : Value := .slice x.A x.l.length x.c
def lsts (m : Man) (A4 A5 A6 : Option Addr) (c4 c5 c6 : Nat) : List Lst := [⟨A4, c4, m.se⟩, ⟨A5, c5, m.pu⟩, ⟨A6, c6, m.ou⟩]
def nums (m : Man) : List Int := [m.o, m.s, m.r]
theorem lsts_all (m : Man) (A4 A5 A6 : Option Addr) (c4 c5 c6 : Nat) : (lsts m A4 A5 A6 c4 c5 c6).all (fun x => cellsB x.l) = [m.se, m.pu, m.ou].all cellsB := by simp [lsts]
theorem at3 {α : Type} {P : Nat → α → Prop} {a b c : α} (h0 : P 0 a) (h1 : P 1 b) (h2 : P 2 c) : ∀ j v, [a, b, c][j]? = some v → P j v
  | 0, v, h => by simp at h; subst h; exact h0
  | 1, v, h => by simp at h; subst h; exact h1
  | 2, v, h => by simp at h; subst h; exact h2
  | j + 3, v, h => by simp at h
set_option maxRecDepth 100000 in
set_option maxHeartbeats 4000000 in
theorem can (m : Man) (A4 A5 A6 : Option Addr) (c4 c5 c6 : Nat) (w : World) (h4 : Cs w A4 m.se) (h5 : Cs w A5 m.pu) (h6 : Cs w A6 m.ou) :
    Calls Try.prog 12 #[man m A4 A5 A6 c4 c5 c6] w fun e w' => e = .returned (.bool (canM m)) ∧ Below w.heap.size w w' := by
  have hcs : ∀ j (x : Lst), (lsts m A4 A5 A6 c4 c5 c6)[j]? = some x → Cs w x.A x.l := at3 (P := fun _ (x : Lst) => Cs w x.A x.l) h4 h5 h6
  have HCS := Lib.hid hcs
  have HM := Lib.hid (canM_eq m)
  have HL := Lib.hid (lsts_all m A4 A5 A6 c4 c5 c6)
  clear h4 h5 h6 hcs
  go_enter Try.func12, Try.ntmps12
  go_wp2_with fail
  go_loopw [15] (fun vi wr => ∃ k : Nat, k ≤ 3 ∧ vi = .int .i64 k ∧ Hid (Below w.heap.size w wr ∧ w.heap.size + 2 ≤ wr.heap.size ∧ (∀ j v, (nums m)[j]? = some v → wr.cell? ⟨w.heap.size + 1, j, none⟩ = some (.int .i64 v)) ∧ wr.cell? ⟨w.heap.size, 3, none⟩ = some (.int .i64 m.w) ∧ wr.cell? ⟨w.heap.size, 4, none⟩ = some (.slice A4 m.se.length c4) ∧ wr.cell? ⟨w.heap.size, 5, none⟩ = some (.slice A5 m.pu.length c5) ∧ wr.cell? ⟨w.heap.size, 6, none⟩ = some (.slice A6 m.ou.length c6) ∧ ((nums m).take k).all okN = true)) (fun vi _ => 3 - (intOf vi).toNat)
  case atStart =>
    refine ⟨0, by omega, rfl, Lib.hid ⟨((Below.refl _ _).alloc (Nat.le_refl _) _).alloc (by simp) _, by simp, at3 ?_ ?_ ?_, ?_, ?_, ?_, ?_, rfl⟩⟩
    all_goals go_simp
  case round =>
    obtain ⟨k, hk, rfl, HH⟩ := hrel
    by_cases hlt : k < 3
    · obtain ⟨v, hv⟩ : ∃ v, (nums m)[k]? = some v := ⟨_, List.getElem?_eq_getElem (show k < (nums m).length from hlt)⟩
      have hc := HH.out.2.2.1 k v hv
      have hat := all_take' okN (nums m) k v hv
      rw [HH.out.2.2.2.2.2.2.2, Bool.true_and] at hat
      have hfin : okN v = false → canM m = false := fun h => by
        rw [HM.out, show [m.o, m.s, m.r].all okN = false from all_false okN (nums m) k v hv h]; rfl
      have HF := Lib.hid hfin; have HA := Lib.hid hat
      clear hv hat hfin
      by_cases hb : v < 0 ∨ 2147483647 < v
      · have HB := Lib.hid hb
        have HN := Lib.hid (HF.out (by unfold okN; rcases hb with hb | hb
                                       · rw [decide_eq_false (show ¬ 0 ≤ v by omega)]; rfl
                                       · rw [decide_eq_false (show ¬ v ≤ 2147483647 by omega)]; simp))
        clear hb
        go_wp2_with (go_at_call 24; (with_reducible refine (within_no v 0 2147483647 _ HB.out).mono ?_); rintro e w' ⟨rfl, rfl⟩)
        go_ret
        exact ⟨by rw [HN.out]; rfl, HH.out.1⟩
      · have d1 : 0 ≤ v := by omega
        have d2 : v ≤ 2147483647 := by omega
        have HY := Lib.hid (HA.out.trans (show okN v = true by unfold okN; rw [decide_eq_true d1, decide_eq_true d2]; rfl))
        clear hb
        go_wp2_with (go_at_call 24; (with_reducible refine (within_yes v 0 2147483647 _ d1 d2).mono ?_); rintro e w' ⟨rfl, rfl⟩)
        go_roundw
        case rel => exact ⟨k + 1, by omega, by go_num, Lib.hid ⟨HH.out.1, HH.out.2.1, HH.out.2.2.1, HH.out.2.2.2.1, HH.out.2.2.2.2.1, HH.out.2.2.2.2.2.1, HH.out.2.2.2.2.2.2.1, HY.out⟩⟩
        case measure => simp [intOf]; omega
    · have hk3 : k = 3 := by omega
      obtain ⟨hb1, hz1, _, q3, q4, q5, q6, hall⟩ := HH.out
      rw [hk3] at hall
      have hge : 3 ≤ k := by omega
      have HN := Lib.hid (show [m.o, m.s, m.r].all okN = true from hall)
      have HB1 := Lib.hid hb1; have HZ1 := Lib.hid hz1; have Q3 := Lib.hid q3
      clear hb1 hall HH q3 hlt hz1 hk3
      go_wp2_with fail
      go_loopw [31] (fun vi ws => ∃ k : Nat, k ≤ 3 ∧ vi = .int .i64 k ∧ Hid (Below w.heap.size w ws ∧ wr.heap.size + 1 ≤ ws.heap.size ∧ (∀ j x, (lsts m A4 A5 A6 c4 c5 c6)[j]? = some x → ws.cell? ⟨wr.heap.size, j, none⟩ = some x.v) ∧ ws.cell? ⟨w.heap.size, 3, none⟩ = some (.int .i64 m.w) ∧ ((lsts m A4 A5 A6 c4 c5 c6).take k).all (fun x => cellsB x.l) = true)) (fun vi _ => 3 - (intOf vi).toNat)
      case atStart =>
        refine ⟨0, by omega, rfl, Lib.hid ⟨HB1.out.alloc HB1.out.size _, by simp, at3 ?_ ?_ ?_, (World.cell?_alloc_lt _ _ _ (by have := HZ1.out; show w.heap.size < _; omega)).trans Q3.out, rfl⟩⟩
        all_goals go_simp
      case round =>
        rename World => ws
        obtain ⟨k, hk, rfl, HH⟩ := hrel
        by_cases hlt : k < 3
        · obtain ⟨⟨xA, xc, xl⟩, hx⟩ : ∃ x, (lsts m A4 A5 A6 c4 c5 c6)[k]? = some x := ⟨_, List.getElem?_eq_getElem (show k < (lsts m A4 A5 A6 c4 c5 c6).length from hlt)⟩
          have hc : ws.cell? ⟨wr.heap.size, k, none⟩ = some (.slice xA xl.length xc) := HH.out.2.2.1 k _ hx
          have hat := all_take' (fun x : Lst => cellsB x.l) _ k _ hx
          rw [HH.out.2.2.2.2, Bool.true_and] at hat
          have hfin : cellsB xl = false → canM m = false := fun h => by
            rw [HM.out, HN.out, ← HL.out, all_false (fun x : Lst => cellsB x.l) _ k _ hx h]; rfl
          have hcs : Cs w xA xl := HCS.out k _ hx
          have hcall := fun W h => canCells xA xc xl W h hcs.2.1 hcs.2.2
          have HF := Lib.hid hfin; have HA := Lib.hid hat; have HCALL := Lib.hid hcall; have HX := Lib.hid hcs
          have HLI := Lib.hid (HX.out.below HH.out.1).1
          clear hx hat hfin hcs hcall
          generalize hbb : cellsB xl = bb at HF HA HCALL
          clear hbb
          cases bb
          · have HNO := Lib.hid (HF.out rfl)
            go_wp2_with (go_at_call 25; (with_reducible refine (HCALL.out ws HLI.out).mono ?_); rintro e w' ⟨rfl, hb2⟩)
            go_ret
            exact ⟨by rw [HNO.out]; rfl, HH.out.1.trans (hb2.mono HH.out.1.size)⟩
          · have hwz : w.heap.size < ws.heap.size := by have := HZ1.out; have := HH.out.2.1; omega
            go_wp2_with (go_at_call 25; (with_reducible refine (HCALL.out ws HLI.out).mono ?_); rintro e w' ⟨rfl, hb2⟩; have HB2 := Lib.hid hb2; clear hb2)
            go_roundw
            case rel => exact ⟨k + 1, by omega, by go_num, Lib.hid ⟨HH.out.1.trans (HB2.out.mono HH.out.1.size), Nat.le_trans HH.out.2.1 HB2.out.size, fun j y hy => (HB2.out.cell (p := ⟨wr.heap.size, j, none⟩) (by have := HH.out.2.1; show wr.heap.size < _; omega)).trans (HH.out.2.2.1 j y hy), (HB2.out.cell (p := ⟨w.heap.size, 3, none⟩) hwz).trans HH.out.2.2.2.1, HA.out⟩⟩
            case measure => simp [intOf]; omega
        · have hk3 : k = 3 := by omega
          subst hk3
          obtain ⟨hb1, hz1, _, q3, hall⟩ := HH.out
          have HAL := Lib.hid (HL.out.symm.trans hall)
          have HB1 := Lib.hid hb1
          clear HH hb1 hall hlt
          by_cases hw : m.w < 0 ∨ 16000 < m.w
          · have HW := Lib.hid hw
            have HNO : Hid (canM m = false) := Lib.hid (by
              rw [HM.out, HN.out, HAL.out]; unfold okW; rcases hw with hw | hw
              · rw [decide_eq_false (show ¬ 0 ≤ m.w by omega)]; rfl
              · rw [decide_eq_false (show ¬ m.w ≤ 16000 by omega)]; simp)
            clear hw
            go_wp2_with (go_at_call 24; (with_reducible refine (within_no m.w 0 16000 _ HW.out).mono ?_); rintro e w' ⟨rfl, rfl⟩)
            go_ret
            exact ⟨by rw [HNO.out]; rfl, HB1.out⟩
          · have d1 : 0 ≤ m.w := by omega
            have d2 : m.w ≤ 16000 := by omega
            have HYE : Hid (canM m = true) := Lib.hid (by
              rw [HM.out, HN.out, HAL.out]; unfold okW; rw [decide_eq_true d1, decide_eq_true d2]; rfl)
            clear hw
            go_wp2_with (go_at_call 24; (with_reducible refine (within_yes m.w 0 16000 _ d1 d2).mono ?_); rintro e w' ⟨rfl, rfl⟩)
            go_ret
            exact ⟨by rw [HYE.out]; rfl, HB1.out⟩
end Go.Proofs.Ytgcmbleinobneaa.Ip
