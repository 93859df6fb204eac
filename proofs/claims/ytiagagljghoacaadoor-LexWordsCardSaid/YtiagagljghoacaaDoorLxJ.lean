/- DERIVED. The contracts of the reference's Same (over tokens that are one) and Join. By an AI agent. -/
import Derived.Test.YtiagagljghoacaaDoorLxK
namespace Go.Proofs.YtiagagljghoacaaDoor.Lx
open Go Go.ChangeShapes Go.WideShapes Go.ChangeAt Go.RowKit Args
set_option linter.unusedVariables false
set_option linter.unusedSimpArgs false
def tkC (t : Tk) : List Value := [.int .i64 (t.k : Int), .string ⟨t.s.toArray⟩, .int .i64 (t.at_ : Int)]
theorem flat3 (l : List Tk) (i : Nat) (t : Tk) (h : l[i]? = some t) : (l.flatMap tkC)[i * 3]? = some (.int .i64 (t.k : Int)) ∧ (l.flatMap tkC)[i * 3 + 1]? = some (.string ⟨t.s.toArray⟩) ∧ (l.flatMap tkC)[i * 3 + 2]? = some (.int .i64 (t.at_ : Int)) := by
  induction l generalizing i with
  | nil => simp at h
  | cons d l ih =>
    cases i with
    | zero => simp at h; subst h; exact ⟨rfl, rfl, rfl⟩
    | succ i =>
      simp at h
      obtain ⟨h1, h2, h3⟩ := ih i h
      rw [List.flatMap_cons, show (i + 1) * 3 = i * 3 + 1 + 1 + 1 by omega]
      simp only [tkC, List.cons_append, List.nil_append, List.getElem?_cons_succ]
      exact ⟨h1, h2, h3⟩
theorem strip_at {l m : List Tk} (h : strip l = strip m) {i : Nat} {t : Tk} (ht : l[i]? = some t) : ∃ u, m[i]? = some u ∧ u.k = t.k ∧ u.s = t.s := by
  have h1 : (strip l)[i]? = some (t.k, t.s) := by unfold strip; rw [List.getElem?_map, ht]; rfl
  rw [h] at h1
  unfold strip at h1
  rw [List.getElem?_map] at h1
  rcases hm : m[i]? with _ | u
  · rw [hm] at h1; cases h1
  · rw [hm] at h1
    injection h1 with h1
    injection h1 with h1 h2
    exact ⟨u, rfl, h1, h2⟩
theorem below_drewN {B : Nat} {w w' : World} (h : Below B w w') (n : Nat) : Below B w (w'.drewN n) := ⟨h.os, h.tape, h.output, h.size, h.block⟩
set_option maxRecDepth 100000 in
set_option maxHeartbeats 4000000 in
theorem same (A B : Option Addr) (c d : Nat) (l m : List Tk) (wh : Bool) (w : World) (hA : Lies w A (l.flatMap tkC)) (hB : Lies w B (m.flatMap tkC)) (hs : strip l = strip m) (hw : wh = true → l = m) (hl : l.length ≤ 100000) :
    Calls Tryd.prog 9 #[.slice A l.length c, .slice B m.length d, .bool wh] w fun e w' => e = .returned (.bool true) ∧ Below w.heap.size w w' := by
  have hlen : m.length = l.length := by have := congrArg List.length hs; simpa [strip] using this.symm
  rw [hlen]
  have HA := Lib.hid hA; have HB := Lib.hid hB; have HS := Lib.hid hs; have HW := Lib.hid hw
  clear hA hB hs hw hlen
  go_enter Tryd.func9, Tryd.ntmps9
  go_wp2_with fail
  go_loopw [7] (fun vi wr => ∃ k : Nat, k ≤ l.length ∧ vi = .int .i64 k ∧ Hid (Below w.heap.size w wr)) (fun vi _ => l.length - (intOf vi).toNat)
  case atStart => exact ⟨0, by omega, rfl, Lib.hid (Below.refl _ _)⟩
  case round =>
    obtain ⟨k, hk, rfl, HH⟩ := hrel
    by_cases hlt : k < l.length
    · obtain ⟨t, ht⟩ : ∃ t, l[k]? = some t := ⟨_, List.getElem?_eq_getElem hlt⟩
      obtain ⟨u, hu, hk1, hs1⟩ := strip_at HS.out ht
      have hat : wh = true → u.at_ = t.at_ := fun h => by
        have := HW.out h
        subst this
        rw [ht] at hu; cases hu; rfl
      obtain ⟨f1, f2, f3⟩ := flat3 l k t ht
      obtain ⟨g1, g2, g3⟩ := flat3 m k u hu
      rw [hk1] at g1
      rw [hs1] at g2
      obtain ⟨b, o, rfl, _, hc1⟩ := (HA.out.below HH.out).at_ f1
      obtain ⟨b', o', rfl, _, hc2⟩ := (HB.out.below HH.out).at_ g1
      have e1 := hc1 _ _ f1
      have e2 : wr.cell? ⟨b, o + k * 3 + 1, none⟩ = some (.string ⟨t.s.toArray⟩) := by rw [Nat.add_assoc]; exact hc1 _ _ f2
      have e3 : wr.cell? ⟨b, o + k * 3 + 2, none⟩ = some (.int .i64 (t.at_ : Int)) := by rw [Nat.add_assoc]; exact hc1 _ _ f3
      have e4 := hc2 _ _ g1
      have e5 : wr.cell? ⟨b', o' + k * 3 + 1, none⟩ = some (.string ⟨t.s.toArray⟩) := by rw [Nat.add_assoc]; exact hc2 _ _ g2
      have e6 : wr.cell? ⟨b', o' + k * 3 + 2, none⟩ = some (.int .i64 (u.at_ : Int)) := by rw [Nat.add_assoc]; exact hc2 _ _ g3
      clear hc1 hc2 f1 f2 f3 g1 g2 g3 ht hu hk1 hs1
      cases wh with
      | true =>
        rw [hat rfl] at e6
        clear hat
        go_wp2_with fail
        go_quiet (fail)
        go_wp2_with fail
        go_roundw
        case rel => exact ⟨k + 1, by omega, by go_num, Lib.hid (below_drewN HH.out nq)⟩
        case measure => simp [intOf]; omega
      | false =>
        clear hat
        go_wp2_with fail
        go_quiet (fail)
        go_wp2_with fail
        go_roundw
        case rel => exact ⟨k + 1, by omega, by go_num, Lib.hid (below_drewN HH.out nq)⟩
        case measure => simp [intOf]; omega
    · go_wp2_with fail
      go_ret
      exact ⟨rfl, HH.out⟩
/-- What is joined of the first k tokens. -/
theorem join_take (l : List Bs) (k : Nat) (t : Bs) (h : l[k]? = some t) : joinL (l.take (k + 1)) = joinL (l.take k) ++ (if 0 < k then [32] else []) ++ t := by
  induction l generalizing k with
  | nil => simp at h
  | cons x l ih =>
    cases k with
    | zero =>
      have : x = t := by simpa using h
      subst this
      simp [joinL]
    | succ k =>
      have h2 : l[k]? = some t := by simpa using h
      have := ih k h2
      rw [List.take_succ_cons, List.take_succ_cons, if_pos (by omega)]
      cases l with
      | nil => simp at h2
      | cons y l =>
        cases k with
        | zero =>
          have : y = t := by simpa using h2
          subst this
          simp [joinL]
        | succ k =>
          rw [if_pos (by omega)] at this
          rw [List.take_succ_cons] at this ⊢
          rw [List.take_succ_cons] at this ⊢
          show x ++ 32 :: joinL (y :: l.take (k + 1)) = (x ++ 32 :: joinL (y :: l.take k)) ++ [32] ++ t
          rw [this]
          simp
theorem join_take_le (l : List Bs) (k : Nat) : (joinL (l.take k)).length ≤ (joinL l).length := by
  by_cases h : l.length ≤ k
  · rw [List.take_of_length_le h]; exact Nat.le_refl _
  · obtain ⟨d, hd⟩ : ∃ d, l.length = k + d := ⟨l.length - k, by omega⟩
    clear h
    induction d generalizing k with
    | zero => rw [List.take_of_length_le (by omega)]; exact Nat.le_refl _
    | succ d ih =>
      have h1 := ih (k + 1) (by omega)
      have h2 := join_take l k (l[k]'(by omega)) (List.getElem?_eq_getElem _)
      rw [h2] at h1
      simp only [List.length_append] at h1
      omega
set_option maxRecDepth 100000 in
set_option maxHeartbeats 4000000 in
theorem join (A : Option Addr) (c : Nat) (l : List Tk) (w : World) (hA : Lies w A (l.flatMap tkC)) (hl : l.length ≤ 100000) (hj : (joinL (l.map Tk.s)).length ≤ 1000000) :
    Calls Tryd.prog 16 #[.slice A l.length c] w fun e w' => e = .returned (.string ⟨(joinL (l.map Tk.s)).toArray⟩) ∧ w' = w := by
  obtain ⟨r, hr⟩ : ∃ r, (⟨(joinL (l.map Tk.s)).toArray⟩ : ByteArray) = r := ⟨_, rfl⟩
  rw [hr]
  have HA := Lib.hid hA; have HR := Lib.hid hr; have HJL := Lib.hid hj
  clear hA hr hj
  go_enter Tryd.func16, Tryd.ntmps16
  go_wp2_with fail
  go_loop [3, 4] (fun vs vi => ∃ (k : Nat) (s : ByteArray), k ≤ l.length ∧ vs = .string s ∧ vi = .int .i64 k ∧ Hid (s = ⟨(joinL ((l.map Tk.s).take k)).toArray⟩)) (fun vs vi => l.length - (intOf vi).toNat)
  case atStart => exact ⟨0, _, by omega, rfl, rfl, Lib.hid rfl⟩
  case round =>
    obtain ⟨k, s, hk, rfl, rfl, HQ⟩ := hrel
    by_cases hlt : k < l.length
    · obtain ⟨t, ht⟩ : ∃ t, l[k]? = some t := ⟨_, List.getElem?_eq_getElem hlt⟩
      obtain ⟨f1, f2, f3⟩ := flat3 l k t ht
      obtain ⟨b, o, rfl, _, hc1⟩ := HA.out.at_ f1
      have e2 : w.cell? ⟨b, o + k * 3 + 1, none⟩ = some (.string ⟨t.s.toArray⟩) := by rw [Nat.add_assoc]; exact hc1 _ _ f2
      have hj := join_take (l.map Tk.s) k t.s (by rw [List.getElem?_map, ht]; rfl)
      have hl1 := join_take_le (l.map Tk.s) (k + 1)
      rw [hj] at hl1
      simp only [List.length_append] at hl1
      have hJ := HJL.out
      have hss : s.size = (joinL ((l.map Tk.s).take k)).length := by rw [HQ.out]; simp [ByteArray.size]
      have hts : (⟨t.s.toArray⟩ : ByteArray).size = t.s.length := by simp [ByteArray.size]
      have hs2 : (s ++ ⟨#[32]⟩).size = s.size + 1 := by simp; rfl
      have HJ := Lib.hid hj
      clear hj hc1 f1 f2 f3 ht
      by_cases h0 : 0 < k
      · have i0 : decide ((0 : Int) < (k : Int)) = true := by simp; omega
        go_wp2_with fail
        go_round
        case rel => exact ⟨k + 1, _, by omega, rfl, by go_num, Lib.hid (by rw [HJ.out, if_pos h0, HQ.out]; apply ByteArray.ext; simp)⟩
        case measure => simp [intOf]; omega
      · have i0 : decide ((0 : Int) < (k : Int)) = false := by simp; omega
        go_wp2_with fail
        go_round
        case rel => exact ⟨k + 1, _, by omega, rfl, by go_num, Lib.hid (by rw [HJ.out, if_neg h0, HQ.out]; apply ByteArray.ext; simp)⟩
        case measure => simp [intOf]; omega
    · have HE := Lib.hid (show s = r by rw [HQ.out, ← HR.out, List.take_of_length_le (by simp; omega)])
      go_wp2_with fail
      go_ret
      exact ⟨by rw [HE.out] <;> rfl, rfl⟩
end Go.Proofs.YtiagagljghoacaaDoor.Lx
