/- DERIVED. LxC, LxK, LxJ, PaAp, PaTop in one text. By an AI agent. -/
import Derived.Test.YtpoepignpdfleaaGreatDoorZ02
import Derived.Test.YtpoepignpdfleaaGreatDoorRows
import Derived.Test.YtpoepignpdfleaaGreatDoorZ01
import Derived.WalkKit
import Derived.Lib.Hide
import Derived.BigQuiet
import Derived.Test.YtpoepignpdfleaaGreatDoorZ04
/- DERIVED. The contracts of the reference's letter, num, In, Word. By an AI agent. -/
namespace Go.Proofs.YtpoepignpdfleaaGreatDoor.Lx
open Go Go.ChangeShapes Go.WideShapes Go.ChangeAt Go.RowKit Args
set_option linter.unusedVariables false
set_option linter.unusedSimpArgs false
theorem letter (c : UInt8) (w : World) : Calls Tryz.prog 45 #[.int .u8 ((c.toNat : Nat) : Int)] w fun e w' => e = .returned (.bool (letB c)) ∧ w = w' := by
  have hb : letB c = ((decide (65 ≤ c.toNat) && decide (c.toNat ≤ 90)) || (decide (97 ≤ c.toNat) && decide (c.toNat ≤ 122))) := rfl
  generalize letB c = b at *
  generalize c.toNat = k at *
  by_cases h1 : 65 ≤ k
  · by_cases h2 : k ≤ 90
    · have HB := Lib.hid (show b = true by rw [hb]; simp [h1, h2])
      have i1 : decide ((65 : Int) ≤ (k : Int)) = true := by simp; omega
      have i2 : decide ((k : Int) ≤ 90) = true := by simp; omega
      clear hb h1 h2
      go_enter Tryz.func45, Tryz.ntmps45
      go_wp2_with fail
      go_ret
      exact ⟨(congrArg (fun b => Ending.returned (Value.bool b)) HB.out).symm, rfl⟩
    · by_cases h3 : 97 ≤ k
      · by_cases h4 : k ≤ 122
        · have HB := Lib.hid (show b = true by rw [hb]; simp [h3, h4])
          have i1 : decide ((65 : Int) ≤ (k : Int)) = true := by simp; omega
          have i2 : decide ((k : Int) ≤ 90) = false := by simp; omega
          have i3 : decide ((97 : Int) ≤ (k : Int)) = true := by simp; omega
          have i4 : decide ((k : Int) ≤ 122) = true := by simp; omega
          clear hb h1 h2 h3 h4
          go_enter Tryz.func45, Tryz.ntmps45
          go_wp2_with fail
          go_ret
          exact ⟨(congrArg (fun b => Ending.returned (Value.bool b)) HB.out).symm, rfl⟩
        · have HB := Lib.hid (show b = false by rw [hb]; simp; omega)
          have i1 : decide ((65 : Int) ≤ (k : Int)) = true := by simp; omega
          have i2 : decide ((k : Int) ≤ 90) = false := by simp; omega
          have i3 : decide ((97 : Int) ≤ (k : Int)) = true := by simp; omega
          have i4 : decide ((k : Int) ≤ 122) = false := by simp; omega
          clear hb h1 h2 h3 h4
          go_enter Tryz.func45, Tryz.ntmps45
          go_wp2_with fail
          go_ret
          exact ⟨(congrArg (fun b => Ending.returned (Value.bool b)) HB.out).symm, rfl⟩
      · have HB := Lib.hid (show b = false by rw [hb]; simp; omega)
        have i1 : decide ((65 : Int) ≤ (k : Int)) = true := by simp; omega
        have i2 : decide ((k : Int) ≤ 90) = false := by simp; omega
        have i3 : decide ((97 : Int) ≤ (k : Int)) = false := by simp; omega
        clear hb h1 h2 h3
        go_enter Tryz.func45, Tryz.ntmps45
        go_wp2_with fail
        go_ret
        exact ⟨(congrArg (fun b => Ending.returned (Value.bool b)) HB.out).symm, rfl⟩
  · have HB := Lib.hid (show b = false by rw [hb]; simp; omega)
    have i1 : decide ((65 : Int) ≤ (k : Int)) = false := by simp; omega
    have i3 : decide ((97 : Int) ≤ (k : Int)) = false := by simp; omega
    clear hb h1
    go_enter Tryz.func45, Tryz.ntmps45
    go_wp2_with fail
    go_ret
    exact ⟨(congrArg (fun b => Ending.returned (Value.bool b)) HB.out).symm, rfl⟩
theorem num (c : UInt8) (w : World) : Calls Tryz.prog 46 #[.int .u8 ((c.toNat : Nat) : Int)] w fun e w' => e = .returned (.bool (numB c)) ∧ w = w' := by
  have hb : numB c = (decide (48 ≤ c.toNat) && decide (c.toNat ≤ 57)) := rfl
  generalize numB c = b at *
  generalize c.toNat = k at *
  by_cases h1 : 48 ≤ k
  · by_cases h2 : k ≤ 57
    · have HB := Lib.hid (show b = true by rw [hb]; simp [h1, h2])
      have i1 : decide ((48 : Int) ≤ (k : Int)) = true := by simp; omega
      have i2 : decide ((k : Int) ≤ 57) = true := by simp; omega
      clear hb h1 h2
      go_enter Tryz.func46, Tryz.ntmps46
      go_wp2_with fail
      go_ret
      exact ⟨(congrArg (fun b => Ending.returned (Value.bool b)) HB.out).symm, rfl⟩
    · have HB := Lib.hid (show b = false by rw [hb]; simp; omega)
      have i1 : decide ((48 : Int) ≤ (k : Int)) = true := by simp; omega
      have i2 : decide ((k : Int) ≤ 57) = false := by simp; omega
      clear hb h1 h2
      go_enter Tryz.func46, Tryz.ntmps46
      go_wp2_with fail
      go_ret
      exact ⟨(congrArg (fun b => Ending.returned (Value.bool b)) HB.out).symm, rfl⟩
  · have HB := Lib.hid (show b = false by rw [hb]; simp; omega)
    have i1 : decide ((48 : Int) ≤ (k : Int)) = false := by simp; omega
    clear hb h1
    go_enter Tryz.func46, Tryz.ntmps46
    go_wp2_with fail
    go_ret
    exact ⟨(congrArg (fun b => Ending.returned (Value.bool b)) HB.out).symm, rfl⟩
abbrev strs (l : List Bs) : List Value := l.map fun t => .string ⟨t.toArray⟩
theorem inL (l : List Bs) (s : Bs) : ∀ k, (∀ j, j < k → l[j]? ≠ some s) → (l.drop k).contains s = l.contains s := fun k h => by
  induction k generalizing l with
  | zero => rfl
  | succ k ih =>
    cases l with
    | nil => rfl
    | cons x l =>
      rw [List.drop_succ_cons, ih l fun j hj => by have := h (j + 1) (by omega); simpa using this]
      have hx : x ≠ s := fun e => h 0 (by omega) (by simp [e])
      simp only [List.contains_eq_mem, List.mem_cons, Ne.symm hx, false_or]
set_option maxHeartbeats 1000000 in
theorem in_ (A : Option Addr) (c : Nat) (l : List Bs) (s : ByteArray) (w : World) (hA : Lies w A (strs l)) (hl : l.length ≤ 1000) :
    Calls Tryz.prog 24 #[.slice A l.length c, .string s] w fun e w' => e = .returned (.bool (l.contains s.data.toList)) ∧ w = w' := by
  have hin := inL l s.data.toList
  have HA := Lib.hid hA; have HIN := Lib.hid hin
  clear hA hin
  generalize hb : l.contains s.data.toList = b at *
  have HB := Lib.hid hb
  clear hb
  go_enter Tryz.func24, Tryz.ntmps24
  go_wp2_with fail
  go_loop [5] (fun vi => ∃ k : Nat, k ≤ l.length ∧ vi = .int .i64 k ∧ Hid (∀ j, j < k → l[j]? ≠ some s.data.toList)) (fun vi => l.length - (intOf vi).toNat)
  case atStart => exact ⟨0, by omega, rfl, Lib.hid fun j hj => absurd hj (by omega)⟩
  case round =>
    obtain ⟨k, hk, rfl, HQ⟩ := hrel
    by_cases hlt : k < l.length
    · obtain ⟨t, ht⟩ : ∃ t, l[k]? = some t := ⟨_, List.getElem?_eq_getElem hlt⟩
      have ht2 : (strs l)[k]? = some (.string ⟨t.toArray⟩) := by simp [ht]
      obtain ⟨b', o, rfl, _, hc⟩ := HA.out.at_ ht2
      have e1 := hc _ _ ht2
      have HTT := Lib.hid ht
      clear hc ht2 ht
      cases hq : (t == s.toList) with
      | true =>
        have hts : t = s.data.toList := by have := eq_of_beq hq; rwa [ByteArray.toList_eq] at this
        have HR := Lib.hid (show b = true from by rw [← HB.out, List.contains_eq_mem, decide_eq_true_eq, ← hts]; exact List.mem_of_getElem? HTT.out)
        clear hts
        go_wp2_with fail
        go_ret
        exact ⟨(congrArg (fun b => Ending.returned (Value.bool b)) HR.out).symm, rfl⟩
      | false =>
        have hts : t ≠ s.data.toList := fun e => by rw [ByteArray.toList_eq, e] at hq; simp at hq
        have HTS := Lib.hid hts
        clear hts
        go_wp2_with fail
        go_round
        case rel => exact ⟨k + 1, by omega, by go_num, Lib.hid fun j hj => by
          by_cases hjk : j < k
          · exact HQ.out j hjk
          · obtain rfl : j = k := by omega
            rw [HTT.out]; intro e; exact HTS.out (Option.some.inj e)⟩
        case measure => simp [intOf]; omega
    · have HR := Lib.hid (show b = false from by rw [← HIN.out k HQ.out, List.drop_of_length_le (by omega)]; rfl)
      go_wp2_with fail
      go_ret
      exact ⟨(congrArg (fun b => Ending.returned (Value.bool b)) HR.out).symm, rfl⟩
theorem lies_strs (w : World) (t : TypeId) (l : List Bs) : Lies (w.alloc (.cells (strs l).toArray t)) (some ⟨w.heap.size, 0, none⟩) (strs l) := fun j u hj => ⟨_, rfl, by
  rw [Args.add_plain, Nat.zero_add, World.cell?_alloc_at _ _ _ _ rfl]; simpa using hj⟩
set_option maxHeartbeats 1000000 in
theorem word (s : ByteArray) (w : World) : Calls Tryz.prog 47 #[.string s] w fun e w' => e = .returned (.bool (wordB s.data.toList)) ∧ Below w.heap.size w w' := by
  have hI := in_ (some ⟨w.heap.size, 0, none⟩) 7 words7 s (w.alloc (.cells (strs words7).toArray 9)) (lies_strs w 9 words7) (by decide)
  have hx : Below w.heap.size w (w.alloc (.cells (strs words7).toArray 9)) := (Below.refl _ _).alloc (Nat.le_refl _) _
  have HX := Lib.hid hx
  rw [show words7.contains s.data.toList = wordB s.data.toList from rfl] at hI
  generalize wordB s.data.toList = b at *
  have HI := Lib.hid hI
  clear hI hx
  go_enter Tryz.func47, Tryz.ntmps47
  go_wp2_with fail
  refine HI.out.mono ?_
  rintro e w' ⟨rfl, rfl⟩
  go_wp2_with fail
  go_ret
  exact ⟨rfl, HX.out⟩
end Go.Proofs.YtpoepignpdfleaaGreatDoor.Lx
/- DERIVED. The contracts of the reference's skip and Name. By an AI agent. -/
namespace Go.Proofs.YtpoepignpdfleaaGreatDoor.Lx
open Go Go.ChangeShapes Go.WideShapes Go.ChangeAt Go.RowKit Args
set_option linter.unusedVariables false
set_option linter.unusedSimpArgs false
theorem u8_of {c : UInt8} {n : Nat} (h : c.toNat = n) : c = UInt8.ofNat n := by rw [← h]; simp
theorem skip_sp {c : UInt8} {r : Bs} (h : c.toNat = 32 ∨ c.toNat = 9 ∨ c.toNat = 10) : skipL false (c :: r) = skipL false r + 1 := by
  rcases h with h | h | h <;> (rw [u8_of h]; rfl)
theorem skip_cm {c d : UInt8} {r : Bs} (h : c.toNat = 47) (h2 : d.toNat = 47) : skipL false (c :: d :: r) = skipL true (c :: d :: r) := by
  rw [u8_of h, u8_of h2]; rfl
theorem u8_ne {c : UInt8} {n : Nat} (h : c.toNat ≠ n) (hn : n < 256) : c ≠ UInt8.ofNat n := fun e => h (by rw [e]; simp; omega)
theorem skip_no {c : UInt8} {r : Bs} (h1 : c.toNat ≠ 32) (h2 : c.toNat ≠ 9) (h3 : c.toNat ≠ 10) (h4 : c.toNat = 47 → ∀ d, r.head? = some d → d.toNat ≠ 47) : skipL false (c :: r) = 0 := by
  have e1 := u8_ne h1 (by decide); have e2 := u8_ne h2 (by decide); have e3 := u8_ne h3 (by decide)
  have f1 : c ≠ 32 := e1
  have f2 : c ≠ 9 := e2
  have f3 : c ≠ 10 := e3
  unfold skipL
  rw [if_neg (by simp [f1, f2, f3])]
  by_cases h : c.toNat = 47
  · cases r with
    | nil => simp
    | cons d r =>
      have f4 : d ≠ 47 := u8_ne (h4 h d rfl) (by decide)
      rw [if_neg (by simp [f4])]
  · have f4 : c ≠ 47 := u8_ne h (by decide)
    rw [if_neg (by simp [f4])]
theorem cm_nl {c : UInt8} {r : Bs} (h : c.toNat = 10) : skipL true (c :: r) = skipL false (c :: r) := by rw [u8_of h]; rfl
theorem cm_on {c : UInt8} {r : Bs} (h : c.toNat ≠ 10) : skipL true (c :: r) = skipL true r + 1 := by
  have f : c ≠ 10 := u8_ne h (by decide)
  show (if c == 10 then skipL false r + 1 else skipL true r + 1) = _
  rw [if_neg (by simp [f])]
theorem drop_at (s : ByteArray) (k : Nat) (h : k < s.size) : s.data.toList.drop k = s[k] :: s.data.toList.drop (k + 1) := by
  have h' : k < s.data.toList.length := by simpa using h
  rw [List.drop_eq_getElem_cons h']; rfl
theorem drop_end (s : ByteArray) (k : Nat) (h : s.size ≤ k) : s.data.toList.drop k = [] := List.drop_of_length_le (by simpa using h)
set_option maxRecDepth 100000 in
set_option maxHeartbeats 4000000 in
theorem skip (s : ByteArray) (i : Nat) (hi : i ≤ s.size) (hs : s.size ≤ 100000) (w : World) :
    Calls Tryz.prog 44 #[.string s, .int .i64 (i : Int)] w fun e w' => e = .returned (.int .i64 ((i + skipL false (s.data.toList.drop i) : Nat) : Int)) ∧ w = w' := by
  obtain ⟨r, hr⟩ : ∃ r, i + skipL false (s.data.toList.drop i) = r := ⟨_, rfl⟩
  rw [hr]
  have HR := Lib.hid hr
  clear hr
  go_enter Tryz.func44, Tryz.ntmps44
  go_wp2_with fail
  go_loop [1] (fun vi => ∃ k : Nat, k ≤ s.size ∧ vi = .int .i64 k ∧ Hid (k + skipL false (s.data.toList.drop k) = r)) (fun vi => s.size - (intOf vi).toNat)
  case atStart => exact ⟨i, hi, rfl, HR⟩
  case round =>
    clear HR
    obtain ⟨k, hk, rfl, HQ⟩ := hrel
    by_cases hlt : k < s.size
    · have hd := drop_at s k hlt
      have hq := HQ.out
      rw [hd] at hq
      have hc := s[k].toNat_lt
      by_cases h32 : s[k].toNat = 32 ∨ s[k].toNat = 9 ∨ s[k].toNat = 10
      · rw [skip_sp h32] at hq
        have HN := Lib.hid (show k + 1 + skipL false (s.data.toList.drop (k + 1)) = r by omega)
        clear hd hq
        by_cases n1 : s[k].toNat = 32
        · have e1 : ((s[k].toNat : Int) == 32) = true := by simp; omega
          clear h32 n1 hc HQ
          go_wp2_with fail
          go_round
          case rel => exact ⟨k + 1, by omega, by go_num, HN⟩
          case measure => simp [intOf]; omega
        · have e1 : ((s[k].toNat : Int) == 32) = false := by simp; omega
          by_cases n2 : s[k].toNat = 9
          · have e2 : ((s[k].toNat : Int) == 9) = true := by simp; omega
            clear h32 n1 n2 hc HQ
            go_wp2_with fail
            go_round
            case rel => exact ⟨k + 1, by omega, by go_num, HN⟩
            case measure => simp [intOf]; omega
          · have e2 : ((s[k].toNat : Int) == 9) = false := by simp; omega
            have e3 : ((s[k].toNat : Int) == 10) = true := by simp; omega
            clear h32 n1 n2 hc HQ
            go_wp2_with fail
            go_round
            case rel => exact ⟨k + 1, by omega, by go_num, HN⟩
            case measure => simp [intOf]; omega
      · have n1 : s[k].toNat ≠ 32 := by omega
        have n2 : s[k].toNat ≠ 9 := by omega
        have n3 : s[k].toNat ≠ 10 := by omega
        have e1 : ((s[k].toNat : Int) == 32) = false := by simp; omega
        have e2 : ((s[k].toNat : Int) == 9) = false := by simp; omega
        have e3 : ((s[k].toNat : Int) == 10) = false := by simp; omega
        have e10 : ((s[k].toNat : Int) != 10) = true := by simp; omega
        by_cases h47 : s[k].toNat = 47
        · by_cases hk1 : k + 1 < s.size
          · have hd1 := drop_at s (k + 1) hk1
            by_cases h48 : s[k + 1].toNat = 47
            · rw [hd1, skip_cm h47 h48, ← hd1, ← hd] at hq
              have HN := Lib.hid hq
              have HW : Hid (∀ h : k < s.size, s[k].toNat = 10 → k < k) := Lib.hid fun h e => by omega
              have e4 : ((s[k].toNat : Int) == 47) = true := by simp; omega
              have e5 : ((s[k + 1].toNat : Int) == 47) = true := by simp; omega
              have hk1' : (k : Int) + 1 < (s.size : Int) := by omega
              clear hd hq hd1 h32 h47 h48 hc n1 n2 n3 HQ
              go_wp2_with fail
              go_loop [1] (fun vi => ∃ m : Nat, (m ≤ s.size ∧ k ≤ m) ∧ vi = .int .i64 m ∧ Hid (m + skipL true (s.data.toList.drop m) = r) ∧ Hid (∀ h : m < s.size, s[m].toNat = 10 → k < m)) (fun vi => s.size - (intOf vi).toNat)
              case atStart => exact ⟨k, ⟨by omega, Nat.le_refl _⟩, rfl, HN, HW⟩
              case round =>
                clear HN
                obtain ⟨m, ⟨hm, hkm⟩, rfl, HM, HV⟩ := hrel
                by_cases hlt2 : m < s.size
                · have hd2 := drop_at s m hlt2
                  have hq2 := HM.out
                  rw [hd2] at hq2
                  by_cases n10 : s[m].toNat = 10
                  · rw [cm_nl n10, ← hd2] at hq2
                    have HN := Lib.hid hq2
                    have hlt3 : k < m := HV.out hlt2 n10
                    have e6 : ((s[m].toNat : Int) != 10) = false := by simp; omega
                    clear hq2 hd2 n10 HM
                    go_wp2_with fail
                    go_round
                    case rel => exact ⟨m, by omega, by go_num, HN⟩
                    case measure => simp [intOf]; omega
                  · rw [cm_on n10] at hq2
                    have HN := Lib.hid (show m + 1 + skipL true (s.data.toList.drop (m + 1)) = r by omega)
                    have e6 : ((s[m].toNat : Int) != 10) = true := by simp; omega
                    clear hq2 hd2 n10 HM
                    go_wp2_with fail
                    go_round
                    case rel => exact ⟨m + 1, ⟨by omega, by omega⟩, by go_num, HN, Lib.hid fun _ _ => by omega⟩
                    case measure => simp [intOf]; omega
                · rw [drop_end s m (by omega)] at HM
                  have HN := Lib.hid (show m + skipL false (s.data.toList.drop m) = r by rw [drop_end s m (by omega)]; exact HM.out)
                  clear HM
                  go_wp2_with fail
                  go_round
                  case rel => exact ⟨m, by omega, by go_num, HN⟩
                  case measure => simp [intOf]; omega
            · have h0 : skipL false (s[k] :: s.data.toList.drop (k + 1)) = 0 := skip_no n1 n2 n3 fun _ d hd' => by rw [hd1] at hd'; cases hd'; exact h48
              rw [h0] at hq
              have HE := Lib.hid (show r = k from hq.symm)
              have e4 : ((s[k].toNat : Int) == 47) = true := by simp; omega
              have e5 : ((s[k + 1].toNat : Int) == 47) = false := by simp; omega
              have hk1' : (k : Int) + 1 < (s.size : Int) := by omega
              clear hd hq hd1 h32 h47 h48 hc n1 n2 n3 HQ h0
              go_wp2_with fail
              go_ret
              exact ⟨by rw [HE.out] <;> rfl, rfl⟩
          · have h0 : skipL false (s[k] :: s.data.toList.drop (k + 1)) = 0 := skip_no n1 n2 n3 fun _ d hd' => by rw [drop_end s (k + 1) (by omega)] at hd'; cases hd'
            rw [h0] at hq
            have HE := Lib.hid (show r = k from hq.symm)
            have e4 : ((s[k].toNat : Int) == 47) = true := by simp; omega
            clear hd hq h32 h47 hc n1 n2 n3 HQ h0
            go_wp2_with fail
            go_ret
            exact ⟨by rw [HE.out] <;> rfl, rfl⟩
        · have h0 : skipL false (s[k] :: s.data.toList.drop (k + 1)) = 0 := skip_no n1 n2 n3 fun h => absurd h h47
          rw [h0] at hq
          have HE := Lib.hid (show r = k from hq.symm)
          have e4 : ((s[k].toNat : Int) == 47) = false := by simp; omega
          clear hd hq h32 h47 hc n1 n2 n3 HQ h0
          go_wp2_with fail
          go_ret
          exact ⟨by rw [HE.out] <;> rfl, rfl⟩
    · rw [drop_end s k (by omega)] at HQ
      have HE := Lib.hid (show r = k from HQ.out.symm)
      clear HQ
      go_wp2_with fail
      go_ret
      exact ⟨by rw [HE.out] <;> rfl, rfl⟩
end Go.Proofs.YtpoepignpdfleaaGreatDoor.Lx
/- DERIVED. The contracts of the reference's Same (over tokens that are one) and Join. By an AI agent. -/
namespace Go.Proofs.YtpoepignpdfleaaGreatDoor.Lx
open Go Go.ChangeShapes Go.WideShapes Go.ChangeAt Go.RowKit Args
set_option linter.unusedVariables false
set_option linter.unusedSimpArgs false
def tkC (t : Tk) : List Value := [.int .i64 (t.k : Int), .string ⟨t.s.toArray⟩, .int .i64 (t.at_ : Int)]
theorem flat3 (l : List Tk) (i : Nat) (t : Tk) (h : l[i]? = some t) : (l.flatMap tkC)[i * 3]? = some (.int .i64 (t.k : Int)) ∧ (l.flatMap tkC)[i * 3 + 1]? = some (.string ⟨t.s.toArray⟩) ∧ (l.flatMap tkC)[i * 3 + 2]? = some (.int .i64 (t.at_ : Int)) := by
  induction l generalizing i with
  | nil => simp at h
  | cons d l ih =>
    cases i with
    | zero => simp at h; subst h; exact ⟨rfl, rfl, rfl⟩
    | succ i =>
      simp at h
      obtain ⟨h1, h2, h3⟩ := ih i h
      rw [List.flatMap_cons, show (i + 1) * 3 = i * 3 + 1 + 1 + 1 by omega]
      simp only [tkC, List.cons_append, List.nil_append, List.getElem?_cons_succ]
      exact ⟨h1, h2, h3⟩
theorem strip_at {l m : List Tk} (h : strip l = strip m) {i : Nat} {t : Tk} (ht : l[i]? = some t) : ∃ u, m[i]? = some u ∧ u.k = t.k ∧ u.s = t.s := by
  have h1 : (strip l)[i]? = some (t.k, t.s) := by unfold strip; rw [List.getElem?_map, ht]; rfl
  rw [h] at h1
  unfold strip at h1
  rw [List.getElem?_map] at h1
  rcases hm : m[i]? with _ | u
  · rw [hm] at h1; cases h1
  · rw [hm] at h1
    injection h1 with h1
    injection h1 with h1 h2
    exact ⟨u, rfl, h1, h2⟩
theorem below_drewN {B : Nat} {w w' : World} (h : Below B w w') (n : Nat) : Below B w (w'.drewN n) := ⟨h.os, h.tape, h.output, h.size, h.block⟩
end Go.Proofs.YtpoepignpdfleaaGreatDoor.Lx
/- DERIVED. What is read does not hang on what stands behind it. Of no program. By an AI agent. -/
namespace Go.Proofs.YtpoepignpdfleaaGreatDoor.Pa
open Lx
/-- Well read ahead of e, it is read so ahead of l2; S: e was not looked at. -/
def Lo (S : Prop) (e : Tk) (l2 : List Tk) (o o' : OO) : Prop := ∀ ys v, o = some (.ok ys (v ++ [e])) → (S → v ≠ []) → o' = some (.ok ys (v ++ l2))
section
variable {e : Tk} {l2 : List Tk}
theorem et_suf {r u : List Tk} (h : Et r) (hs : r <:+ u ++ [e]) : ∃ v, r = v ++ [e] ∧ ∀ t ∈ v, t.k ≠ 0 := by
  obtain ⟨v, e2, rfl, _, hv⟩ := h
  obtain ⟨w, hw⟩ := hs
  have h1 : (w ++ v) ++ [e2] = u ++ [e] := by rw [← hw, List.append_assoc]
  have h2 := List.append_inj_right' h1 rfl
  cases h2
  exact ⟨v, rfl, hv⟩
theorem lo_none {S : Prop} {o o' : OO} (h : ∀ ys v, o = some (.ok ys (v ++ [e])) → (S → v ≠ []) → False) : Lo S e l2 o o' := fun ys v h1 h2 => (h ys v h1 h2).elim
theorem lo_wrong {S : Prop} {l : List Tk} {n : Nat} {o' : OO} : Lo S e l2 (wrong l n) o' := lo_none fun ys v h _ => by cases h
theorem lo_ok {S : Prop} (xs : List Tr) (v : List Tk) : Lo S e l2 (some (.ok xs (v ++ [e]))) (some (.ok xs (v ++ l2))) := fun ys v' h _ => by
  simp only [Option.some.injEq, Out.ok.injEq] at h
  obtain ⟨rfl, h2⟩ := h
  rw [List.append_cancel_right h2]
theorem lo_if {S : Prop} {c : Prop} [Decidable c] {o o' p p' : OO} (h1 : c → Lo S e l2 o o') (h2 : ¬ c → Lo S e l2 p p') : Lo S e l2 (if c then o else p) (if c then o' else p') := by
  by_cases h : c
  · rw [if_pos h, if_pos h]; exact h1 h
  · rw [if_neg h, if_neg h]; exact h2 h
theorem lo_bnd {S S' : Prop} {u : List Tk} {o o' : OO} {f f' : List Tr → List Tk → OO} (h : Lo S' e l2 o o') (hg : Gd (u ++ [e]) o)
    (hz : ∀ xs ys v, f xs [e] = some (.ok ys (v ++ [e])) → (S → v ≠ []) → False) (hf : ∀ xs v, (∀ t ∈ v, t.k ≠ 0) → v ≠ [] → Lo S e l2 (f xs (v ++ [e])) (f' xs (v ++ l2))) : Lo S e l2 (bnd o f) (bnd o' f') := by
  rcases o with _ | ⟨xs, r⟩ | ⟨a, n⟩
  · exact lo_none fun ys v h _ => by cases h
  · obtain ⟨v, rfl, hv⟩ := et_suf hg.1 hg.2
    by_cases hn : v = []
    · subst hn; exact lo_none fun ys v' h1 h2 => hz xs ys v' h1 h2
    · rw [h xs v rfl fun _ => hn]; exact hf xs v hv hn
  · exact lo_none fun ys v h _ => by cases h
theorem lo_bndT {S : Prop} {u : List Tk} {o o' : OO} {f f' : List Tr → List Tk → OO} (h : Lo False e l2 o o') (hg : Gd (u ++ [e]) o)
    (hf : ∀ xs v, (∀ t ∈ v, t.k ≠ 0) → Lo S e l2 (f xs (v ++ [e])) (f' xs (v ++ l2))) : Lo S e l2 (bnd o f) (bnd o' f') := by
  rcases o with _ | ⟨xs, r⟩ | ⟨a, n⟩
  · exact lo_none fun ys v h _ => by cases h
  · obtain ⟨v, rfl, hv⟩ := et_suf hg.1 hg.2
    rw [h xs v rfl False.elim]; exact hf xs v hv
  · exact lo_none fun ys v h _ => by cases h
theorem ok_z {xs ys : List Tr} {v : List Tk} (h : some (Out.ok xs [e]) = some (.ok ys (v ++ [e]))) (hv : True → v ≠ []) : False := by
  simp only [Option.some.injEq, Out.ok.injEq] at h
  have := congrArg List.length h.2
  simp at this
  exact hv trivial this
theorem e_no (he : e.k = 0) (b : Bs) : isS b e = false := by unfold isS; rw [he]; rfl
theorem lo_must {S : Prop} (he : e.k = 0) {b : Bs} {u : List Tk} {f f' : List Tk → OO} (hu : ∀ t ∈ u, t.k ≠ 0) (hf : ∀ v, (∀ t ∈ v, t.k ≠ 0) → Lo S e l2 (f (v ++ [e])) (f' (v ++ l2))) : Lo S e l2 (must b (u ++ [e]) f) (must b (u ++ l2) f') := by
  cases u with
  | nil =>
    refine lo_none fun ys v h _ => ?_
    have : must b [e] f = wrong [e] 100 := by unfold must; simp only; rw [if_neg (by rw [e_no he]; decide)]
    rw [List.nil_append, this] at h; cases h
  | cons t u => exact lo_if (fun _ => hf u fun x hx => hu x (List.mem_cons_of_mem _ hx)) fun _ => lo_wrong
theorem lo_name {S : Prop} (he : e.k = 0) {u : List Tk} {f f' : Bs → List Tk → OO} (hu : ∀ t ∈ u, t.k ≠ 0) (hf : ∀ s v, (∀ t ∈ v, t.k ≠ 0) → Lo S e l2 (f s (v ++ [e])) (f' s (v ++ l2))) : Lo S e l2 (nameK (u ++ [e]) f) (nameK (u ++ l2) f') := by
  cases u with
  | nil =>
    refine lo_none fun ys v h _ => ?_
    have : nameK [e] f = wrong [e] 100 := by unfold nameK; simp only; rw [if_neg (by omega)]
    rw [List.nil_append, this] at h; cases h
  | cons t u => exact lo_if (fun _ => hf t.s u fun x hx => hu x (List.mem_cons_of_mem _ hx)) fun _ => lo_wrong
theorem must_e (he : e.k = 0) (b : Bs) (f : List Tk → OO) : must b [e] f = wrong [e] 100 := by unfold must; simp only; rw [if_neg (by rw [e_no he]; decide)]
theorem must_z (he : e.k = 0) {S : Prop} {b : Bs} {f : List Tk → OO} (ys : List Tr) (v : List Tk) (h : must b [e] f = some (.ok ys (v ++ [e]))) (_ : S → v ≠ []) : False := by
  rw [must_e he] at h; cases h
theorem lo_names {S : Prop} (he : e.k = 0) {f f' : List Bs → List Tk → OO} (hz : ∀ ps ys v, f ps [e] = some (.ok ys (v ++ [e])) → (S → v ≠ []) → False) (hf : ∀ ps v, (∀ t ∈ v, t.k ≠ 0) → v ≠ [] → Lo S e l2 (f ps (v ++ [e])) (f' ps (v ++ l2))) :
    ∀ (ps : List Bs) (u : List Tk), (∀ t ∈ u, t.k ≠ 0) → Lo S e l2 (namesK ps (u ++ [e]) f) (namesK ps (u ++ l2) f')
  | ps, [], _ => by
    refine lo_none fun ys v h _ => ?_
    have : namesK ps [e] f = wrong [e] 100 := by unfold namesK; rw [if_neg (by omega)]
    rw [List.nil_append, this] at h; cases h
  | ps, [t], _ => by
    refine lo_none fun ys v h h2 => ?_
    have : namesK ps [t, e] f = if t.k = 1 then f (ps ++ [t.s]) [e] else wrong [t, e] 100 := by
      unfold namesK
      rw [if_neg (c := isS [44] e = true) (by rw [e_no he]; decide)]
    rw [show [t] ++ [e] = [t, e] from rfl, this] at h
    by_cases hk : t.k = 1
    · rw [if_pos hk] at h; exact hz _ _ _ h h2
    · rw [if_neg hk] at h; cases h
  | ps, t :: x :: u, hu => by
    have hu1 : ∀ y ∈ x :: u, y.k ≠ 0 := fun y hy => hu y (List.mem_cons_of_mem _ hy)
    show Lo S e l2 (namesK ps (t :: x :: (u ++ [e])) f) (namesK ps (t :: x :: (u ++ l2)) f')
    unfold namesK
    exact lo_if (fun _ => lo_if (fun _ => lo_names he hz hf _ u fun y hy => hu1 y (List.mem_cons_of_mem _ hy)) fun _ => hf _ (x :: u) hu1 (List.cons_ne_nil _ _)) fun _ => lo_wrong
end
/-- Does it look at what stands behind it? -/
def NT.looks : NT → Prop
  | .lev _ => True
  | .more _ _ => True
  | .args _ => True
  | _ => False
def NT.isStmts : NT → Prop
  | .stmts _ => True
  | _ => False
theorem et_of {u : List Tk} {e : Tk} (he : e.k = 0) (hu : ∀ t ∈ u, t.k ≠ 0) : Et (u ++ [e]) := ⟨u, e, rfl, he, hu⟩
theorem ne_tail {t : Tk} {u : List Tk} (h : ∀ x ∈ t :: u, x.k ≠ 0) : ∀ x ∈ u, x.k ≠ 0 := fun x hx => h x (List.mem_cons_of_mem _ hx)
set_option maxHeartbeats 1000000 in
theorem pF_app (num : Bs → Nat × Nat) {e : Tk} (he : e.k = 0) (l2 : List Tk) : ∀ (f : Nat) (nt : NT) (d : Nat) (u : List Tk), ¬ nt.isStmts → (∀ t ∈ u, t.k ≠ 0) → Lo nt.looks e l2 (pF num f nt d (u ++ [e])) (pF num f nt d (u ++ l2)) := by
  intro f
  induction f with
  | zero => intro nt d u _ _; exact lo_none fun ys v h _ => by cases h
  | succ f ih =>
    intro nt d u hn hu
    have gd := fun nt d v (hv : ∀ t ∈ v, t.k ≠ 0) => pF_good num f nt d (v ++ [e]) (et_of he hv)
    have ihe := fun n d v hv => ih (.lev n) d v (by exact fun h => h) hv
    -- nothing begins at the end
    have lev_e : ∀ g n d ys r, pF num g (.lev n) d [e] ≠ some (.ok ys r) := by
      intro g
      induction g with
      | zero => intro n d ys r h; cases h
      | succ g ihg =>
        intro n d ys r h
        unfold pF at h
        by_cases h5 : n < 5
        · rw [if_pos h5] at h
          rcases hx : pF num g (.lev (n + 1)) d [e] with _ | ⟨xs, r'⟩ | ⟨a, b⟩
          · rw [hx] at h; cases h
          · exact ihg _ _ _ _ hx
          · rw [hx] at h; cases h
        · rw [if_neg h5] at h
          simp only at h
          rw [e_no he, e_no he, e_no he] at h
          unfold nameK at h
          simp only [Bool.or_self, Bool.false_eq_true, if_false, he] at h
          split at h
          · cases h
          · simp at h; cases h
    have inner_e : ∀ g d ys r, pF num g .inner d [e] ≠ some (.ok ys r) := by
      intro g d ys r h
      cases g with
      | zero => cases h
      | succ g =>
        unfold pF at h
        simp only at h
        rw [e_no he] at h
        unfold nameK at h
        simp only [Bool.false_eq_true, if_false, he] at h
        split at h
        · cases h
        · simp at h; cases h
    have inners_e : ∀ g zs d ys r, pF num g (.inners zs) d [e] ≠ some (.ok ys r) := by
      intro g zs d ys r h
      cases g with
      | zero => cases h
      | succ g =>
        unfold pF at h
        simp only at h
        rw [e_no he, if_neg (by decide)] at h
        rcases hx : pF num g .inner (d + 1) [e] with _ | ⟨xs, r'⟩ | ⟨a, b⟩
        · rw [hx] at h; cases h
        · exact inner_e _ _ _ _ hx
        · rw [hx] at h; cases h
    have more_e : ∀ g n x d ys v, pF num g (.more n x) d [e] = some (.ok ys (v ++ [e])) → (True → v ≠ []) → False := by
      intro g n x d ys v h hv
      cases g with
      | zero => cases h
      | succ g =>
        unfold pF at h
        simp only at h
        rw [if_neg (by unfold onS; rw [he]; simp)] at h
        simp only [Option.some.injEq, Out.ok.injEq] at h
        have := congrArg List.length h.2
        simp at this
        exact hv trivial this
    have args_e : ∀ g xs d ys v, pF num g (.args xs) d [e] = some (.ok ys (v ++ [e])) → (True → v ≠ []) → False := by
      intro g xs d ys v h hv
      cases g with
      | zero => cases h
      | succ g =>
        unfold pF at h
        simp only at h
        rw [e_no he, if_neg (by decide)] at h
        simp only [Option.some.injEq, Out.ok.injEq] at h
        have := congrArg List.length h.2
        simp at this
        exact hv trivial this
    have args_b : ∀ g xs d (F : List Tr → List Tk → OO) ys v, (bnd (pF num g (.args xs) d [e]) fun ys r3 => must [41] r3 (F ys)) = some (.ok ys (v ++ [e])) → False := by
      intro g xs d F ys v h
      cases g with
      | zero => cases h
      | succ g =>
        unfold pF at h
        simp only at h
        rw [e_no he, if_neg (by decide)] at h
        simp only [bnd] at h
        rw [must_e he] at h
        cases h
    cases nt with
    | lev n =>
      cases u with
      | nil => exact lo_none fun ys v h _ => lev_e _ _ _ _ _ h
      | cons t u =>
        show Lo True e l2 (pF num (f + 1) (.lev n) d (t :: (u ++ [e]))) (pF num (f + 1) (.lev n) d (t :: (u ++ l2)))
        unfold pF
        refine lo_if (fun _ => lo_bnd (ihe _ _ (t :: u) hu) (gd _ _ (t :: u) hu) (fun xs ys v h hv => more_e _ _ _ _ ys v h hv) fun xs v hv _ => ih (.more n (hd xs)) _ _ (fun h => h) hv) fun _ => ?_
        simp only
        refine lo_if (fun _ => lo_wrong) fun _ => lo_if (fun hs => ?_) fun _ => lo_if (fun hk => ?_) fun _ => lo_if (fun hs => ?_) fun _ => lo_name he (u := t :: u) hu fun s v hv => ?_
        · exact lo_bnd (ihe _ _ _ (ne_tail hu)) (gd _ _ _ (ne_tail hu)) (fun xs ys v h hv => ok_z h hv) fun xs v hv _ => lo_ok _ v
        · exact lo_if (fun _ => lo_ok _ u) fun _ => lo_wrong
        · exact lo_bnd (ihe _ _ _ (ne_tail hu)) (gd _ _ _ (ne_tail hu)) (fun xs ys v h hv => must_z he ys v h hv) fun xs v hv _ => lo_must he hv fun v hv => lo_ok _ v
        · cases v with
          | nil =>
            refine lo_none fun ys v h hv => ?_
            simp only [List.nil_append] at h
            rw [e_no he, if_neg (by decide)] at h
            exact ok_z h hv
          | cons w v =>
            exact lo_if (fun hw => lo_bnd (ihe _ _ _ (ne_tail hv)) (gd _ _ _ (ne_tail hv)) (fun xs ys v h hv => args_b _ _ _ _ ys v h)
              fun xs v hv _ => lo_bnd (ih (.args xs) _ _ (fun h => h) hv) (gd _ _ _ hv) (fun xs ys v h hv => must_z he ys v h hv) fun ys v hv _ => lo_must he hv fun v hv => lo_ok _ v) fun _ => lo_ok _ (w :: v)
    | more n x =>
      cases u with
      | nil => exact lo_none fun ys v h hv => more_e _ _ _ _ _ _ h hv
      | cons t u =>
        show Lo True e l2 (pF num (f + 1) (.more n x) d (t :: (u ++ [e]))) (pF num (f + 1) (.more n x) d (t :: (u ++ l2)))
        unfold pF
        exact lo_if (fun hs => lo_bnd (ihe _ _ _ (ne_tail hu)) (gd _ _ _ (ne_tail hu)) (fun xs ys v h hv => more_e _ _ _ _ ys v h hv) fun ys v hv _ => ih (.more n _) _ _ (fun h => h) hv) fun _ => lo_ok _ (t :: u)
    | args xs =>
      cases u with
      | nil => exact lo_none fun ys v h hv => args_e _ _ _ _ _ h hv
      | cons t u =>
        show Lo True e l2 (pF num (f + 1) (.args xs) d (t :: (u ++ [e]))) (pF num (f + 1) (.args xs) d (t :: (u ++ l2)))
        unfold pF
        exact lo_if (fun hs => lo_bnd (ihe _ _ _ (ne_tail hu)) (gd _ _ _ (ne_tail hu)) (fun xs ys v h hv => args_e _ _ _ ys v h hv) fun ys v hv _ => ih (.args _) _ _ (fun h => h) hv) fun _ => lo_ok _ (t :: u)
    | fin k a s ps =>
      show Lo False e l2 (pF num (f + 1) (.fin k a s ps) d (u ++ [e])) (pF num (f + 1) (.fin k a s ps) d (u ++ l2))
      unfold pF
      exact lo_bnd (ihe _ _ _ hu) (gd _ _ _ hu) (fun xs ys v h hv => must_z he ys v h hv) fun xs v hv _ => lo_must he hv fun v hv => lo_ok _ v
    | inner =>
      cases u with
      | nil => exact lo_none fun ys v h _ => inner_e _ _ _ _ h
      | cons t u =>
        show Lo False e l2 (pF num (f + 1) .inner d (t :: (u ++ [e]))) (pF num (f + 1) .inner d (t :: (u ++ l2)))
        unfold pF
        refine lo_if (fun _ => lo_wrong) fun _ => lo_if (fun hs => lo_name he (ne_tail hu) fun s v hv => lo_must he hv fun v hv => lo_bnd (ihe _ _ _ hv) (gd _ _ _ hv) (fun xs ys v h hv => must_z he ys v h hv) fun xs v hv _ => lo_must he hv fun v hv =>
          lo_bnd (ihe _ _ _ hv) (gd _ _ _ hv) (fun xs ys v h hv => must_z he ys v h hv) fun ys v hv _ => lo_must he hv fun v hv => lo_bndT (ih (.inners _) _ _ (fun h => h) hv) (gd _ _ _ hv) fun zs v hv => lo_ok _ v)
          fun _ => lo_name he (u := t :: u) hu fun s v hv => lo_must he hv fun v hv => ih (.fin _ _ _ _) _ _ (fun h => h) hv
    | inners zs =>
      cases u with
      | nil => exact lo_none fun ys v h _ => inners_e _ _ _ _ _ h
      | cons t u =>
        show Lo False e l2 (pF num (f + 1) (.inners zs) d (t :: (u ++ [e]))) (pF num (f + 1) (.inners zs) d (t :: (u ++ l2)))
        unfold pF
        exact lo_if (fun _ => lo_ok _ u) fun _ => lo_bndT (ih .inner _ (t :: u) (fun h => h) hu) (gd _ _ (t :: u) hu) fun xs v hv => ih (.inners _) _ _ (fun h => h) hv
    | stmt =>
      cases u with
      | nil =>
        refine lo_none fun ys v h _ => ?_
        rw [List.nil_append] at h
        unfold pF at h
        simp only at h
        rw [e_no he, e_no he, e_no he, e_no he, e_no he] at h
        exact inner_e _ _ _ _ h
      | cons t u =>
        show Lo False e l2 (pF num (f + 1) .stmt d (t :: (u ++ [e]))) (pF num (f + 1) .stmt d (t :: (u ++ l2)))
        unfold pF
        refine lo_if (fun hs => ?_) fun _ => lo_if (fun hs => ?_) fun _ => lo_if (fun hs => ?_) fun _ => lo_if (fun hs => ?_) fun _ => lo_if (fun hs => ?_) fun _ => ih .inner _ (t :: u) (fun h => h) hu
        · exact lo_names he (fun ps ys v h hv => must_z he ys v h hv) (fun ps v hv _ => lo_must he hv fun v hv => lo_ok _ v) _ _ (ne_tail hu)
        · exact lo_names he (fun ps ys v h hv => must_z he ys v h hv) (fun ps v hv _ => lo_must he hv fun v hv => lo_ok _ v) _ _ (ne_tail hu)
        · exact lo_name he (ne_tail hu) fun s v hv => lo_must he hv fun v hv => ih (.fin _ _ _ _) _ _ (fun h => h) hv
        · exact lo_name he (ne_tail hu) fun s v hv => lo_must he hv fun v hv => ih (.fin _ _ _ _) _ _ (fun h => h) hv
        · exact lo_name he (ne_tail hu) fun s v hv => lo_must he hv fun v hv => lo_names he (fun ps ys v h hv => must_z he ys v h hv) (fun ps v hv _ => lo_must he hv fun v hv => lo_must he hv fun v hv => ih (.fin _ _ _ _) _ _ (fun h => h) hv) _ _ hv
    | stmts xs => exact (hn trivial).elim
end Go.Proofs.YtpoepignpdfleaaGreatDoor.Pa
/- DERIVED. Two programs one behind the other are one. Of no program. By an AI agent. -/
namespace Go.Proofs.YtpoepignpdfleaaGreatDoor.Pa
open Lx
/-- An outcome with trees ahead of its own. -/
def pre (a : List Tr) : Out → Out
  | .ok l r => .ok (a ++ l) r
  | .bad p e => .bad p e
theorem stmts_acc (num : Bs → Nat × Nat) (a : List Tr) : ∀ (f : Nat) (xs : List Tr) (d : Nat) (l : List Tk), pF num f (.stmts (a ++ xs)) d l = (pF num f (.stmts xs) d l).map (pre a) := by
  intro f
  induction f with
  | zero => intros; rfl
  | succ f ih =>
    intro xs d l
    unfold pF
    cases l with
    | nil => rfl
    | cons t r =>
      simp only
      by_cases h : t.k = 0
      · rw [if_pos h, if_pos h]; rfl
      · rw [if_neg h, if_neg h]
        rcases pF num f .stmt 0 (t :: r) with _ | ⟨ys, r'⟩ | ⟨p, e⟩
        · rfl
        · show pF num f (.stmts (a ++ xs ++ ys)) d r' = (pF num f (.stmts (xs ++ ys)) d r').map (pre a)
          rw [List.append_assoc]; exact ih _ _ _
        · rfl
theorem stmts_app (num : Bs → Nat × Nat) {e : Tk} (he : e.k = 0) (l2 : List Tk) : ∀ (f : Nat) (xs ys : List Tr) (u r : List Tk) (d : Nat), (∀ t ∈ u, t.k ≠ 0) → pF num f (.stmts xs) d (u ++ [e]) = some (.ok ys r) →
    ∀ (g : Nat) (o : Out), pF num g (.stmts ys) d l2 = some o → ∃ h, pF num h (.stmts xs) d (u ++ l2) = some o := by
  intro f
  induction f with
  | zero => intro xs ys u r d _ h; cases h
  | succ f ih =>
    intro xs ys u r d hu h g o hg
    cases u with
    | nil =>
      rw [List.nil_append] at h
      unfold pF at h
      simp only at h
      rw [if_pos he] at h
      simp only [Option.some.injEq, Out.ok.injEq] at h
      obtain ⟨rfl, _⟩ := h
      exact ⟨g, hg⟩
    | cons t u =>
      have ht : t.k ≠ 0 := hu t (List.mem_cons_self ..)
      have hs := pF_app num he l2 f .stmt 0 (t :: u) (fun h => h) hu
      have gd := pF_good num f .stmt 0 ((t :: u) ++ [e]) (et_of he hu)
      rw [List.cons_append] at h
      unfold pF at h
      simp only at h
      rw [if_neg ht] at h
      rw [List.cons_append] at hs gd
      rcases hx : pF num f .stmt 0 (t :: (u ++ [e])) with _ | ⟨zs, r'⟩ | ⟨p, n⟩
      · rw [hx] at h; cases h
      · rw [hx] at h gd
        obtain ⟨v, rfl, hv⟩ := et_suf (u := t :: u) gd.1 gd.2
        have h2 := hs zs v hx False.elim
        obtain ⟨k, hk⟩ := ih (xs ++ zs) ys v r d hv h g o hg
        refine ⟨max f k + 1, ?_⟩
        have a1 := pF_mono num f (max f k) (Nat.le_max_left _ _) _ _ _ _ h2
        have a2 := pF_mono num k (max f k) (Nat.le_max_right _ _) _ _ _ _ hk
        rw [List.cons_append] at a1 ⊢
        unfold pF
        simp only
        rw [if_neg ht, a1]
        exact a2
      · rw [hx] at h; cases h
/-- Two programs, one behind the other: both's statements. -/
theorem two_programs {num : Bs → Nat × Nat} {u l2 r r2 : List Tk} {e : Tk} (he : e.k = 0) (hu : ∀ t ∈ u, t.k ≠ 0) {f g h : Nat} {ys zs : List Tr} {o : Out}
    (h1 : pF num f (.stmts []) 0 (u ++ [e]) = some (.ok ys r)) (h2 : pF num g (.stmts []) 0 l2 = some (.ok zs r2)) (h3 : pF num h (.stmts []) 0 (u ++ l2) = some o) : o = .ok (ys ++ zs) r2 := by
  have ha := stmts_acc num ys g [] 0 l2
  rw [h2, List.append_nil] at ha
  obtain ⟨k, hk⟩ := stmts_app num he l2 f [] ys u r 0 hu h1 g _ ha
  exact pF_one h3 hk
/-- The same tokens but for places: the same trees but for places. -/
theorem same_programs {num : Bs → Nat × Nat} {l l' r : List Tk} (hl : Sl l l') {f g : Nat} {ys : List Tr} {o : Out} (h1 : pF num f (.stmts []) 0 l = some (.ok ys r)) (h2 : pF num g (.stmts []) 0 l' = some o) :
    ∃ ys' r', o = .ok ys' r' ∧ skL ys = skL ys' ∧ Sl r r' := by
  have a1 := pF_mono num f (max f g) (Nat.le_max_left _ _) _ _ _ _ h1
  have a2 := pF_mono num g (max f g) (Nat.le_max_right _ _) _ _ _ _ h2
  have h := pF_sk num (max f g) (.stmts []) (.stmts []) 0 l l' rfl hl
  unfold Eo at h
  rw [a1, a2] at h
  cases o with
  | ok ys' r' =>
    simp only [Option.map_some, Out.sk, Option.some.injEq, Out.ok.injEq] at h
    exact ⟨ys', r', rfl, h.1, h.2⟩
  | bad p n => simp only [Option.map_some, Out.sk, Option.some.injEq, reduceCtorEq] at h
/-- The words of a text have the end behind them, and there alone. -/
theorem words_et {s : Bs} (h : (wordsL s).er = 0) : Et (wordsL s).l := by
  obtain ⟨hne, ho⟩ := words_order s h
  refine ⟨(wordsL s).l.dropLast, (wordsL s).l.getLast hne, (List.dropLast_concat_getLast hne).symm, ?_, fun t ht => ?_⟩
  · have hl := List.length_pos_iff.2 hne
    have hx : (wordsL s).l[(wordsL s).l.length - 1]? = some ((wordsL s).l.getLast hne) := by
      rw [List.getLast_eq_getElem, List.getElem?_eq_getElem (by omega)]
    exact ((ho _ _ hx).2.2.1).2 (by omega)
  · obtain ⟨j, hj, hjt⟩ := List.getElem_of_mem ht
    rw [List.length_dropLast] at hj
    rw [List.getElem_dropLast] at hjt
    have hx : (wordsL s).l[j]? = some t := by rw [List.getElem?_eq_getElem (by omega), hjt]
    intro hk
    have := ((ho j t hx).2.2.1).1 hk
    omega
/-- What is wrong is told at a place in the text. -/
theorem tells {num : Bs → Nat × Nat} {s : Bs} (h : (wordsL s).er = 0) {f d a e : Nat} {nt : NT} (hp : pF num f nt d (wordsL s).l = some (.bad a e)) : a ≤ s.length ∧ (e = 100 ∨ e = 150) := by
  have hg := pF_good num f nt d _ (words_et h)
  rw [hp] at hg
  obtain ⟨⟨t, ht, rfl⟩, he⟩ := hg
  obtain ⟨j, hj, hjt⟩ := List.getElem_of_mem ht
  have := ((words_order s h).2 j t (by rw [List.getElem?_eq_getElem hj, hjt])).1
  exact ⟨by omega, he⟩
theorem go_bad : ∀ (f : Nat) (bs : Bs) (i n : Nat), (goL f bs i n).er ≠ 0 → (goL f bs i n).at_ ≤ i + bs.length ∧ ((goL f bs i n).er = 100 ∨ (goL f bs i n).er = 150)
  | 0, _, _, _, h => absurd rfl h
  | f + 1, [], i, n, h => by
    have e : goL (f + 1) [] i n = if n = 4000 then ⟨[], i, 150⟩ else ⟨[⟨0, [], i⟩], 0, 0⟩ := rfl
    rw [e] at h ⊢
    by_cases hn : n = 4000
    · rw [if_pos hn]; exact ⟨Nat.le_refl _, .inr rfl⟩
    · rw [if_neg hn] at h; exact absurd rfl h
  | f + 1, c :: r, i, n, h => by
    rcases ht : tokC c r with _ | ⟨k, m⟩
    · rw [goL_none ht]; exact ⟨Nat.le_add_right _ _, .inl rfl⟩
    · have hm := tok_len ht
      rw [goL_some ht] at h ⊢
      by_cases hn : n = 4000
      · rw [if_pos hn]; exact ⟨Nat.le_add_right _ _, .inr rfl⟩
      · rw [if_neg hn] at h ⊢
        have hw : (goL f (restL ((c :: r).drop m)) (i + m + skipL false ((c :: r).drop m)) (n + 1)).er ≠ 0 := fun h0 => by
          rw [cons_is h0] at h; exact h rfl
        rw [cons_er hw]
        have ih := go_bad f _ _ (n + 1) hw
        refine ⟨?_, ih.2⟩
        have h1 := ih.1
        have h2 := skipL_le false ((c :: r).drop m)
        have hl : (restL ((c :: r).drop m)).length = ((c :: r).drop m).length - skipL false ((c :: r).drop m) := by unfold restL; rw [List.length_drop]
        have hd : ((c :: r).drop m).length = (c :: r).length - m := List.length_drop
        have := hm.2.1
        omega
theorem words_bad_at {s : Bs} (h : (wordsL s).er ≠ 0) : (wordsL s).at_ ≤ s.length ∧ ((wordsL s).er = 100 ∨ (wordsL s).er = 150) := by
  unfold wordsL at h ⊢
  by_cases hs : 20000 < s.length
  · rw [if_pos hs]; exact ⟨Nat.zero_le _, .inr rfl⟩
  · rw [if_neg hs] at h ⊢
    have hb := go_bad _ _ _ _ h
    have hk := skipL_le false s
    rw [List.length_drop] at hb
    exact ⟨by omega, hb.2⟩
end Go.Proofs.YtpoepignpdfleaaGreatDoor.Pa
