/- DERIVED. The contracts of the reference's letter, num, In, Word. By an AI agent. -/
import Derived.Test.YtiagagljghoacaaDoorLxSpec
import Derived.Test.YtiagagljghoacaaDoorRows
import Derived.Test.YtiagagljghoacaaDoorUpd
import Derived.WalkKit
import Derived.Lib.Hide
import Derived.BigQuiet
namespace Go.Proofs.YtiagagljghoacaaDoor.Lx
open Go Go.ChangeShapes Go.WideShapes Go.ChangeAt Go.RowKit Args
set_option linter.unusedVariables false
set_option linter.unusedSimpArgs false
theorem letter (c : UInt8) (w : World) : Calls Tryd.prog 19 #[.int .u8 ((c.toNat : Nat) : Int)] w fun e w' => e = .returned (.bool (letB c)) ∧ w = w' := by
  have hb : letB c = ((decide (65 ≤ c.toNat) && decide (c.toNat ≤ 90)) || (decide (97 ≤ c.toNat) && decide (c.toNat ≤ 122))) := rfl
  generalize letB c = b at *
  generalize c.toNat = k at *
  by_cases h1 : 65 ≤ k
  · by_cases h2 : k ≤ 90
    · have HB := Lib.hid (show b = true by rw [hb]; simp [h1, h2])
      have i1 : decide ((65 : Int) ≤ (k : Int)) = true := by simp; omega
      have i2 : decide ((k : Int) ≤ 90) = true := by simp; omega
      clear hb h1 h2
      go_enter Tryd.func19, Tryd.ntmps19
      go_wp2_with fail
      go_ret
      exact ⟨(congrArg (fun b => Ending.returned (Value.bool b)) HB.out).symm, rfl⟩
    · by_cases h3 : 97 ≤ k
      · by_cases h4 : k ≤ 122
        · have HB := Lib.hid (show b = true by rw [hb]; simp [h3, h4])
          have i1 : decide ((65 : Int) ≤ (k : Int)) = true := by simp; omega
          have i2 : decide ((k : Int) ≤ 90) = false := by simp; omega
          have i3 : decide ((97 : Int) ≤ (k : Int)) = true := by simp; omega
          have i4 : decide ((k : Int) ≤ 122) = true := by simp; omega
          clear hb h1 h2 h3 h4
          go_enter Tryd.func19, Tryd.ntmps19
          go_wp2_with fail
          go_ret
          exact ⟨(congrArg (fun b => Ending.returned (Value.bool b)) HB.out).symm, rfl⟩
        · have HB := Lib.hid (show b = false by rw [hb]; simp; omega)
          have i1 : decide ((65 : Int) ≤ (k : Int)) = true := by simp; omega
          have i2 : decide ((k : Int) ≤ 90) = false := by simp; omega
          have i3 : decide ((97 : Int) ≤ (k : Int)) = true := by simp; omega
          have i4 : decide ((k : Int) ≤ 122) = false := by simp; omega
          clear hb h1 h2 h3 h4
          go_enter Tryd.func19, Tryd.ntmps19
          go_wp2_with fail
          go_ret
          exact ⟨(congrArg (fun b => Ending.returned (Value.bool b)) HB.out).symm, rfl⟩
      · have HB := Lib.hid (show b = false by rw [hb]; simp; omega)
        have i1 : decide ((65 : Int) ≤ (k : Int)) = true := by simp; omega
        have i2 : decide ((k : Int) ≤ 90) = false := by simp; omega
        have i3 : decide ((97 : Int) ≤ (k : Int)) = false := by simp; omega
        clear hb h1 h2 h3
        go_enter Tryd.func19, Tryd.ntmps19
        go_wp2_with fail
        go_ret
        exact ⟨(congrArg (fun b => Ending.returned (Value.bool b)) HB.out).symm, rfl⟩
  · have HB := Lib.hid (show b = false by rw [hb]; simp; omega)
    have i1 : decide ((65 : Int) ≤ (k : Int)) = false := by simp; omega
    have i3 : decide ((97 : Int) ≤ (k : Int)) = false := by simp; omega
    clear hb h1
    go_enter Tryd.func19, Tryd.ntmps19
    go_wp2_with fail
    go_ret
    exact ⟨(congrArg (fun b => Ending.returned (Value.bool b)) HB.out).symm, rfl⟩
theorem num (c : UInt8) (w : World) : Calls Tryd.prog 20 #[.int .u8 ((c.toNat : Nat) : Int)] w fun e w' => e = .returned (.bool (numB c)) ∧ w = w' := by
  have hb : numB c = (decide (48 ≤ c.toNat) && decide (c.toNat ≤ 57)) := rfl
  generalize numB c = b at *
  generalize c.toNat = k at *
  by_cases h1 : 48 ≤ k
  · by_cases h2 : k ≤ 57
    · have HB := Lib.hid (show b = true by rw [hb]; simp [h1, h2])
      have i1 : decide ((48 : Int) ≤ (k : Int)) = true := by simp; omega
      have i2 : decide ((k : Int) ≤ 57) = true := by simp; omega
      clear hb h1 h2
      go_enter Tryd.func20, Tryd.ntmps20
      go_wp2_with fail
      go_ret
      exact ⟨(congrArg (fun b => Ending.returned (Value.bool b)) HB.out).symm, rfl⟩
    · have HB := Lib.hid (show b = false by rw [hb]; simp; omega)
      have i1 : decide ((48 : Int) ≤ (k : Int)) = true := by simp; omega
      have i2 : decide ((k : Int) ≤ 57) = false := by simp; omega
      clear hb h1 h2
      go_enter Tryd.func20, Tryd.ntmps20
      go_wp2_with fail
      go_ret
      exact ⟨(congrArg (fun b => Ending.returned (Value.bool b)) HB.out).symm, rfl⟩
  · have HB := Lib.hid (show b = false by rw [hb]; simp; omega)
    have i1 : decide ((48 : Int) ≤ (k : Int)) = false := by simp; omega
    clear hb h1
    go_enter Tryd.func20, Tryd.ntmps20
    go_wp2_with fail
    go_ret
    exact ⟨(congrArg (fun b => Ending.returned (Value.bool b)) HB.out).symm, rfl⟩
abbrev strs (l : List Bs) : List Value := l.map fun t => .string ⟨t.toArray⟩
theorem inL (l : List Bs) (s : Bs) : ∀ k, (∀ j, j < k → l[j]? ≠ some s) → (l.drop k).contains s = l.contains s := fun k h => by
  induction k generalizing l with
  | zero => rfl
  | succ k ih =>
    cases l with
    | nil => rfl
    | cons x l =>
      rw [List.drop_succ_cons, ih l fun j hj => by have := h (j + 1) (by omega); simpa using this]
      have hx : x ≠ s := fun e => h 0 (by omega) (by simp [e])
      simp only [List.contains_eq_mem, List.mem_cons, Ne.symm hx, false_or]
set_option maxHeartbeats 1000000 in
theorem in_ (A : Option Addr) (c : Nat) (l : List Bs) (s : ByteArray) (w : World) (hA : Lies w A (strs l)) (hl : l.length ≤ 1000) :
    Calls Tryd.prog 21 #[.slice A l.length c, .string s] w fun e w' => e = .returned (.bool (l.contains s.data.toList)) ∧ w = w' := by
  have hin := inL l s.data.toList
  have HA := Lib.hid hA; have HIN := Lib.hid hin
  clear hA hin
  generalize hb : l.contains s.data.toList = b at *
  have HB := Lib.hid hb
  clear hb
  go_enter Tryd.func21, Tryd.ntmps21
  go_wp2_with fail
  go_loop [5] (fun vi => ∃ k : Nat, k ≤ l.length ∧ vi = .int .i64 k ∧ Hid (∀ j, j < k → l[j]? ≠ some s.data.toList)) (fun vi => l.length - (intOf vi).toNat)
  case atStart => exact ⟨0, by omega, rfl, Lib.hid fun j hj => absurd hj (by omega)⟩
  case round =>
    obtain ⟨k, hk, rfl, HQ⟩ := hrel
    by_cases hlt : k < l.length
    · obtain ⟨t, ht⟩ : ∃ t, l[k]? = some t := ⟨_, List.getElem?_eq_getElem hlt⟩
      have ht2 : (strs l)[k]? = some (.string ⟨t.toArray⟩) := by simp [ht]
      obtain ⟨b', o, rfl, _, hc⟩ := HA.out.at_ ht2
      have e1 := hc _ _ ht2
      have HTT := Lib.hid ht
      clear hc ht2 ht
      cases hq : (t == s.toList) with
      | true =>
        have hts : t = s.data.toList := by have := eq_of_beq hq; rwa [ByteArray.toList_eq] at this
        have HR := Lib.hid (show b = true from by rw [← HB.out, List.contains_eq_mem, decide_eq_true_eq, ← hts]; exact List.mem_of_getElem? HTT.out)
        clear hts
        go_wp2_with fail
        go_ret
        exact ⟨(congrArg (fun b => Ending.returned (Value.bool b)) HR.out).symm, rfl⟩
      | false =>
        have hts : t ≠ s.data.toList := fun e => by rw [ByteArray.toList_eq, e] at hq; simp at hq
        have HTS := Lib.hid hts
        clear hts
        go_wp2_with fail
        go_round
        case rel => exact ⟨k + 1, by omega, by go_num, Lib.hid fun j hj => by
          by_cases hjk : j < k
          · exact HQ.out j hjk
          · obtain rfl : j = k := by omega
            rw [HTT.out]; intro e; exact HTS.out (Option.some.inj e)⟩
        case measure => simp [intOf]; omega
    · have HR := Lib.hid (show b = false from by rw [← HIN.out k HQ.out, List.drop_of_length_le (by omega)]; rfl)
      go_wp2_with fail
      go_ret
      exact ⟨(congrArg (fun b => Ending.returned (Value.bool b)) HR.out).symm, rfl⟩
theorem lies_strs (w : World) (t : TypeId) (l : List Bs) : Lies (w.alloc (.cells (strs l).toArray t)) (some ⟨w.heap.size, 0, none⟩) (strs l) := fun j u hj => ⟨_, rfl, by
  rw [Args.add_plain, Nat.zero_add, World.cell?_alloc_at _ _ _ _ rfl]; simpa using hj⟩
set_option maxHeartbeats 1000000 in
theorem word (s : ByteArray) (w : World) : Calls Tryd.prog 12 #[.string s] w fun e w' => e = .returned (.bool (wordB s.data.toList)) ∧ Below w.heap.size w w' := by
  have hI := in_ (some ⟨w.heap.size, 0, none⟩) 7 words7 s (w.alloc (.cells (strs words7).toArray 9)) (lies_strs w 9 words7) (by decide)
  have hx : Below w.heap.size w (w.alloc (.cells (strs words7).toArray 9)) := (Below.refl _ _).alloc (Nat.le_refl _) _
  have HX := Lib.hid hx
  rw [show words7.contains s.data.toList = wordB s.data.toList from rfl] at hI
  generalize wordB s.data.toList = b at *
  have HI := Lib.hid hI
  clear hI hx
  go_enter Tryd.func12, Tryd.ntmps12
  go_wp2_with fail
  refine HI.out.mono ?_
  rintro e w' ⟨rfl, rfl⟩
  go_wp2_with fail
  go_ret
  exact ⟨rfl, HX.out⟩
end Go.Proofs.YtiagagljghoacaaDoor.Lx
