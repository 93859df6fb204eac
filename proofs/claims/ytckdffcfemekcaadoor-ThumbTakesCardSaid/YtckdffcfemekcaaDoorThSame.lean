/- DERIVED. The contract of the reference's Same: whether two lists of numbers are one. By an AI agent. -/
import Derived.Test.YtckdffcfemekcaaDoorThRef
namespace Go.Proofs.YtckdffcfemekcaaDoor.ThRef
open Go.ChangeShapes Go.WideShapes Go.ChangeAt Go.RowKit
set_option linter.unusedVariables false
/-- A slice's address leads to these numbers (no address is wanted of none). -/
def Reads64 (w : World) (p : Option Addr) (xs : List Int) : Prop := xs = [] ∨ ∃ g o, p = some ⟨g, o, none⟩ ∧ ∀ i, i < xs.length → w.cell? ⟨g, o + i, none⟩ = some (.int .i64 (xs[i]?.getD 0))
theorem same_take (xs ys : List Int) (k : Nat) (hx : k < xs.length) (hl : xs.length = ys.length) (h : xs.take k = ys.take k) (he : xs[k]?.getD 0 = ys[k]?.getD 0) : xs.take (k + 1) = ys.take (k + 1) := by
  rw [List.take_succ_eq_append_getElem hx, List.take_succ_eq_append_getElem (by omega), h]
  rw [List.getElem?_eq_getElem hx, List.getElem?_eq_getElem (by omega)] at he
  simp only [Option.getD_some] at he
  rw [he]
set_option maxHeartbeats 1600000 in
theorem same (p q : Option Addr) (cx cy : Nat) (xs ys : List Int) (w : World) (hlx : xs.length < 1000000) (hly : ys.length < 1000000) (hx : Reads64 w p xs) (hy : Reads64 w q ys) :
    Calls Tryd.prog 17 #[.slice p xs.length cx, .slice q ys.length cy] w fun e w' => e = .returned (.bool (decide (xs = ys))) ∧ ∃ m, w' = w.drewN m := by
  have HX := Lib.hid hx; have HY := Lib.hid hy
  clear hx hy
  by_cases hl : xs.length = ys.length
  · have HLL := Lib.hid hl
    rw [← hl]
    generalize hn : xs.length = n at hlx ⊢
    have HN := Lib.hid hn
    clear hn hl hly
    go_enter Tryd.func17, Tryd.ntmps17
    go_wp2
    go_loopw [5] (fun vi wr => ∃ k m : Nat, k ≤ n ∧ vi = .int .i64 k ∧ Hid (xs.take k = ys.take k) ∧ wr = w.drewN m) (fun vi _ => n - (intOf vi).toNat)
    case atStart => exact ⟨0, 0, by omega, rfl, Lib.hid rfl, rfl⟩
    case round =>
      obtain ⟨k, m, hk, rfl, HT, rfl⟩ := hrel
      by_cases hlt : k < n
      · have nx : xs ≠ [] := by intro e; have := HN.out; rw [e] at this; simp at this; omega
        have ny : ys ≠ [] := by intro e; have := HN.out; have h2 := HLL.out; rw [e] at h2; simp at h2; rw [h2] at this; simp at this; omega
        rcases HX.out with e | ⟨g1, o1, rfl, h1⟩
        · exact absurd e nx
        rcases HY.out with e | ⟨g2, o2, rfl, h2⟩
        · exact absurd e ny
        have q1 := h1 k (by have := HN.out; omega)
        have q2 := h2 k (by have := HN.out; have := HLL.out; omega)
        clear nx ny h1 h2
        have hst := same_take xs ys k (by have := HN.out; omega) HLL.out HT.out
        have hne : xs[k]?.getD 0 ≠ ys[k]?.getD 0 → decide (xs = ys) = false := fun h => by
          rw [decide_eq_false_iff_not]; intro e; apply h; rw [e]
        generalize xs[k]?.getD 0 = x at q1 hst hne
        generalize ys[k]?.getD 0 = y at q2 hst hne
        by_cases hxy : x = y
        · have HS := Lib.hid (hst hxy)
          have e1 : (x != y) = false := by simp [hxy]
          clear hst hne hxy
          go_wp2_with fail
          go_quiet (fail)
          go_wp2
          go_roundw
          case rel => exact ⟨k + 1, _, by omega, by go_num, HS, rfl⟩
          case measure => simp [intOf]; omega
        · have HF := Lib.hid (hne hxy)
          have e1 : (x != y) = true := by simp [hxy]
          clear hst hne hxy
          go_wp2_with fail
          go_quiet (fail)
          go_wp2
          go_ret
          exact ⟨by rw [HF.out]; rfl, m + nq, by rw [World.drewN_drewN]⟩
      · have hfin : decide (xs = ys) = true := by
          have h := HT.out
          rw [List.take_of_length_le (by have := HN.out; omega), List.take_of_length_le (by have := HN.out; have := HLL.out; omega)] at h
          simp [h]
        have HF := Lib.hid hfin
        clear hfin
        go_wp2
        go_ret
        exact ⟨by rw [HF.out]; rfl, m, rfl⟩
  · have hfin : decide (xs = ys) = false := by
      rw [decide_eq_false_iff_not]; intro e; apply hl; rw [e]
    have HF := Lib.hid hfin
    have e0 : ((xs.length : Int) != (ys.length : Int)) = true := by simp; omega
    clear hfin hl
    go_enter Tryd.func17, Tryd.ntmps17
    go_wp2
    go_ret
    exact ⟨by rw [HF.out]; rfl, 0, rfl⟩
end Go.Proofs.YtckdffcfemekcaaDoor.ThRef
