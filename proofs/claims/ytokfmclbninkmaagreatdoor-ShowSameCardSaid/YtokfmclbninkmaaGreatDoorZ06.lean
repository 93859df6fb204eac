/- DERIVED. LxC, LxK, LxJ, PaAp, PaTop in one text. By an AI agent. -/
import Derived.Test.YtokfmclbninkmaaGreatDoorZ03
import Derived.Test.YtokfmclbninkmaaGreatDoorRows
import Derived.Test.YtokfmclbninkmaaGreatDoorZ01
import Derived.WalkKit
import Derived.Lib.Hide
import Derived.BigQuiet
import Derived.Test.YtokfmclbninkmaaGreatDoorZ05
/- DERIVED. The contracts of the reference's letter, num, In, Word. By an AI agent. -/
namespace Go.Proofs.YtokfmclbninkmaaGreatDoor.Lx
open Go Go.ChangeShapes Go.WideShapes Go.ChangeAt Go.RowKit Args
set_option linter.unusedVariables false
set_option linter.unusedSimpArgs false
theorem letter (c : UInt8) (w : World) : Calls Tryz.prog 50 #[.int .u8 ((c.toNat : Nat) : Int)] w fun e w' => e = .returned (.bool (letB c)) ∧ w = w' := by
  have hb : letB c = ((decide (65 ≤ c.toNat) && decide (c.toNat ≤ 90)) || (decide (97 ≤ c.toNat) && decide (c.toNat ≤ 122))) := rfl
  generalize letB c = b at *
  generalize c.toNat = k at *
  by_cases h1 : 65 ≤ k
  · by_cases h2 : k ≤ 90
    · have HB := Lib.hid (show b = true by rw [hb]; simp [h1, h2])
      have i1 : decide ((65 : Int) ≤ (k : Int)) = true := by simp; omega
      have i2 : decide ((k : Int) ≤ 90) = true := by simp; omega
      clear hb h1 h2
      go_enter Tryz.func50, Tryz.ntmps50
      go_wp2_with fail
      go_ret
      exact ⟨(congrArg (fun b => Ending.returned (Value.bool b)) HB.out).symm, rfl⟩
    · by_cases h3 : 97 ≤ k
      · by_cases h4 : k ≤ 122
        · have HB := Lib.hid (show b = true by rw [hb]; simp [h3, h4])
          have i1 : decide ((65 : Int) ≤ (k : Int)) = true := by simp; omega
          have i2 : decide ((k : Int) ≤ 90) = false := by simp; omega
          have i3 : decide ((97 : Int) ≤ (k : Int)) = true := by simp; omega
          have i4 : decide ((k : Int) ≤ 122) = true := by simp; omega
          clear hb h1 h2 h3 h4
          go_enter Tryz.func50, Tryz.ntmps50
          go_wp2_with fail
          go_ret
          exact ⟨(congrArg (fun b => Ending.returned (Value.bool b)) HB.out).symm, rfl⟩
        · have HB := Lib.hid (show b = false by rw [hb]; simp; omega)
          have i1 : decide ((65 : Int) ≤ (k : Int)) = true := by simp; omega
          have i2 : decide ((k : Int) ≤ 90) = false := by simp; omega
          have i3 : decide ((97 : Int) ≤ (k : Int)) = true := by simp; omega
          have i4 : decide ((k : Int) ≤ 122) = false := by simp; omega
          clear hb h1 h2 h3 h4
          go_enter Tryz.func50, Tryz.ntmps50
          go_wp2_with fail
          go_ret
          exact ⟨(congrArg (fun b => Ending.returned (Value.bool b)) HB.out).symm, rfl⟩
      · have HB := Lib.hid (show b = false by rw [hb]; simp; omega)
        have i1 : decide ((65 : Int) ≤ (k : Int)) = true := by simp; omega
        have i2 : decide ((k : Int) ≤ 90) = false := by simp; omega
        have i3 : decide ((97 : Int) ≤ (k : Int)) = false := by simp; omega
        clear hb h1 h2 h3
        go_enter Tryz.func50, Tryz.ntmps50
        go_wp2_with fail
        go_ret
        exact ⟨(congrArg (fun b => Ending.returned (Value.bool b)) HB.out).symm, rfl⟩
  · have HB := Lib.hid (show b = false by rw [hb]; simp; omega)
    have i1 : decide ((65 : Int) ≤ (k : Int)) = false := by simp; omega
    have i3 : decide ((97 : Int) ≤ (k : Int)) = false := by simp; omega
    clear hb h1
    go_enter Tryz.func50, Tryz.ntmps50
    go_wp2_with fail
    go_ret
    exact ⟨(congrArg (fun b => Ending.returned (Value.bool b)) HB.out).symm, rfl⟩
theorem num (c : UInt8) (w : World) : Calls Tryz.prog 51 #[.int .u8 ((c.toNat : Nat) : Int)] w fun e w' => e = .returned (.bool (numB c)) ∧ w = w' := by
  have hb : numB c = (decide (48 ≤ c.toNat) && decide (c.toNat ≤ 57)) := rfl
  generalize numB c = b at *
  generalize c.toNat = k at *
  by_cases h1 : 48 ≤ k
  · by_cases h2 : k ≤ 57
    · have HB := Lib.hid (show b = true by rw [hb]; simp [h1, h2])
      have i1 : decide ((48 : Int) ≤ (k : Int)) = true := by simp; omega
      have i2 : decide ((k : Int) ≤ 57) = true := by simp; omega
      clear hb h1 h2
      go_enter Tryz.func51, Tryz.ntmps51
      go_wp2_with fail
      go_ret
      exact ⟨(congrArg (fun b => Ending.returned (Value.bool b)) HB.out).symm, rfl⟩
    · have HB := Lib.hid (show b = false by rw [hb]; simp; omega)
      have i1 : decide ((48 : Int) ≤ (k : Int)) = true := by simp; omega
      have i2 : decide ((k : Int) ≤ 57) = false := by simp; omega
      clear hb h1 h2
      go_enter Tryz.func51, Tryz.ntmps51
      go_wp2_with fail
      go_ret
      exact ⟨(congrArg (fun b => Ending.returned (Value.bool b)) HB.out).symm, rfl⟩
  · have HB := Lib.hid (show b = false by rw [hb]; simp; omega)
    have i1 : decide ((48 : Int) ≤ (k : Int)) = false := by simp; omega
    clear hb h1
    go_enter Tryz.func51, Tryz.ntmps51
    go_wp2_with fail
    go_ret
    exact ⟨(congrArg (fun b => Ending.returned (Value.bool b)) HB.out).symm, rfl⟩
abbrev strs (l : List Bs) : List Value := l.map fun t => .string ⟨t.toArray⟩
theorem inL (l : List Bs) (s : Bs) : ∀ k, (∀ j, j < k → l[j]? ≠ some s) → (l.drop k).contains s = l.contains s := fun k h => by
  induction k generalizing l with
  | zero => rfl
  | succ k ih =>
    cases l with
    | nil => rfl
    | cons x l =>
      rw [List.drop_succ_cons, ih l fun j hj => by have := h (j + 1) (by omega); simpa using this]
      have hx : x ≠ s := fun e => h 0 (by omega) (by simp [e])
      simp only [List.contains_eq_mem, List.mem_cons, Ne.symm hx, false_or]
set_option maxHeartbeats 1000000 in
theorem in_ (A : Option Addr) (c : Nat) (l : List Bs) (s : ByteArray) (w : World) (hA : Lies w A (strs l)) (hl : l.length ≤ 1000) :
    Calls Tryz.prog 53 #[.slice A l.length c, .string s] w fun e w' => e = .returned (.bool (l.contains s.data.toList)) ∧ w = w' := by
  have hin := inL l s.data.toList
  have HA := Lib.hid hA; have HIN := Lib.hid hin
  clear hA hin
  generalize hb : l.contains s.data.toList = b at *
  have HB := Lib.hid hb
  clear hb
  go_enter Tryz.func53, Tryz.ntmps53
  go_wp2_with fail
  go_loop [5] (fun vi => ∃ k : Nat, k ≤ l.length ∧ vi = .int .i64 k ∧ Hid (∀ j, j < k → l[j]? ≠ some s.data.toList)) (fun vi => l.length - (intOf vi).toNat)
  case atStart => exact ⟨0, by omega, rfl, Lib.hid fun j hj => absurd hj (by omega)⟩
  case round =>
    obtain ⟨k, hk, rfl, HQ⟩ := hrel
    by_cases hlt : k < l.length
    · obtain ⟨t, ht⟩ : ∃ t, l[k]? = some t := ⟨_, List.getElem?_eq_getElem hlt⟩
      have ht2 : (strs l)[k]? = some (.string ⟨t.toArray⟩) := by simp [ht]
      obtain ⟨b', o, rfl, _, hc⟩ := HA.out.at_ ht2
      have e1 := hc _ _ ht2
      have HTT := Lib.hid ht
      clear hc ht2 ht
      cases hq : (t == s.toList) with
      | true =>
        have hts : t = s.data.toList := by have := eq_of_beq hq; rwa [ByteArray.toList_eq] at this
        have HR := Lib.hid (show b = true from by rw [← HB.out, List.contains_eq_mem, decide_eq_true_eq, ← hts]; exact List.mem_of_getElem? HTT.out)
        clear hts
        go_wp2_with fail
        go_ret
        exact ⟨(congrArg (fun b => Ending.returned (Value.bool b)) HR.out).symm, rfl⟩
      | false =>
        have hts : t ≠ s.data.toList := fun e => by rw [ByteArray.toList_eq, e] at hq; simp at hq
        have HTS := Lib.hid hts
        clear hts
        go_wp2_with fail
        go_round
        case rel => exact ⟨k + 1, by omega, by go_num, Lib.hid fun j hj => by
          by_cases hjk : j < k
          · exact HQ.out j hjk
          · obtain rfl : j = k := by omega
            rw [HTT.out]; intro e; exact HTS.out (Option.some.inj e)⟩
        case measure => simp [intOf]; omega
    · have HR := Lib.hid (show b = false from by rw [← HIN.out k HQ.out, List.drop_of_length_le (by omega)]; rfl)
      go_wp2_with fail
      go_ret
      exact ⟨(congrArg (fun b => Ending.returned (Value.bool b)) HR.out).symm, rfl⟩
theorem lies_strs (w : World) (t : TypeId) (l : List Bs) : Lies (w.alloc (.cells (strs l).toArray t)) (some ⟨w.heap.size, 0, none⟩) (strs l) := fun j u hj => ⟨_, rfl, by
  rw [Args.add_plain, Nat.zero_add, World.cell?_alloc_at _ _ _ _ rfl]; simpa using hj⟩
set_option maxHeartbeats 1000000 in
theorem word (s : ByteArray) (w : World) : Calls Tryz.prog 52 #[.string s] w fun e w' => e = .returned (.bool (wordB s.data.toList)) ∧ Below w.heap.size w w' := by
  have hI := in_ (some ⟨w.heap.size, 0, none⟩) 7 words7 s (w.alloc (.cells (strs words7).toArray 9)) (lies_strs w 9 words7) (by decide)
  have hx : Below w.heap.size w (w.alloc (.cells (strs words7).toArray 9)) := (Below.refl _ _).alloc (Nat.le_refl _) _
  have HX := Lib.hid hx
  rw [show words7.contains s.data.toList = wordB s.data.toList from rfl] at hI
  generalize wordB s.data.toList = b at *
  have HI := Lib.hid hI
  clear hI hx
  go_enter Tryz.func52, Tryz.ntmps52
  go_wp2_with fail
  refine HI.out.mono ?_
  rintro e w' ⟨rfl, rfl⟩
  go_wp2_with fail
  go_ret
  exact ⟨rfl, HX.out⟩
end Go.Proofs.YtokfmclbninkmaaGreatDoor.Lx
/- DERIVED. The contracts of the reference's skip and Name. By an AI agent. -/
namespace Go.Proofs.YtokfmclbninkmaaGreatDoor.Lx
open Go Go.ChangeShapes Go.WideShapes Go.ChangeAt Go.RowKit Args
set_option linter.unusedVariables false
set_option linter.unusedSimpArgs false
theorem u8_of {c : UInt8} {n : Nat} (h : c.toNat = n) : c = UInt8.ofNat n := by rw [← h]; simp
theorem skip_sp {c : UInt8} {r : Bs} (h : c.toNat = 32 ∨ c.toNat = 9 ∨ c.toNat = 10) : skipL false (c :: r) = skipL false r + 1 := by
  rcases h with h | h | h <;> (rw [u8_of h]; rfl)
theorem skip_cm {c d : UInt8} {r : Bs} (h : c.toNat = 47) (h2 : d.toNat = 47) : skipL false (c :: d :: r) = skipL true (c :: d :: r) := by
  rw [u8_of h, u8_of h2]; rfl
theorem u8_ne {c : UInt8} {n : Nat} (h : c.toNat ≠ n) (hn : n < 256) : c ≠ UInt8.ofNat n := fun e => h (by rw [e]; simp; omega)
theorem skip_no {c : UInt8} {r : Bs} (h1 : c.toNat ≠ 32) (h2 : c.toNat ≠ 9) (h3 : c.toNat ≠ 10) (h4 : c.toNat = 47 → ∀ d, r.head? = some d → d.toNat ≠ 47) : skipL false (c :: r) = 0 := by
  have e1 := u8_ne h1 (by decide); have e2 := u8_ne h2 (by decide); have e3 := u8_ne h3 (by decide)
  have f1 : c ≠ 32 := e1
  have f2 : c ≠ 9 := e2
  have f3 : c ≠ 10 := e3
  unfold skipL
  rw [if_neg (by simp [f1, f2, f3])]
  by_cases h : c.toNat = 47
  · cases r with
    | nil => simp
    | cons d r =>
      have f4 : d ≠ 47 := u8_ne (h4 h d rfl) (by decide)
      rw [if_neg (by simp [f4])]
  · have f4 : c ≠ 47 := u8_ne h (by decide)
    rw [if_neg (by simp [f4])]
theorem cm_nl {c : UInt8} {r : Bs} (h : c.toNat = 10) : skipL true (c :: r) = skipL false (c :: r) := by rw [u8_of h]; rfl
theorem cm_on {c : UInt8} {r : Bs} (h : c.toNat ≠ 10) : skipL true (c :: r) = skipL true r + 1 := by
  have f : c ≠ 10 := u8_ne h (by decide)
  show (if c == 10 then skipL false r + 1 else skipL true r + 1) = _
  rw [if_neg (by simp [f])]
theorem drop_at (s : ByteArray) (k : Nat) (h : k < s.size) : s.data.toList.drop k = s[k] :: s.data.toList.drop (k + 1) := by
  have h' : k < s.data.toList.length := by simpa using h
  rw [List.drop_eq_getElem_cons h']; rfl
theorem drop_end (s : ByteArray) (k : Nat) (h : s.size ≤ k) : s.data.toList.drop k = [] := List.drop_of_length_le (by simpa using h)
set_option maxRecDepth 100000 in
set_option maxHeartbeats 4000000 in
theorem skip (s : ByteArray) (i : Nat) (hi : i ≤ s.size) (hs : s.size ≤ 100000) (w : World) :
    Calls Tryz.prog 49 #[.string s, .int .i64 (i : Int)] w fun e w' => e = .returned (.int .i64 ((i + skipL false (s.data.toList.drop i) : Nat) : Int)) ∧ w = w' := by
  obtain ⟨r, hr⟩ : ∃ r, i + skipL false (s.data.toList.drop i) = r := ⟨_, rfl⟩
  rw [hr]
  have HR := Lib.hid hr
  clear hr
  go_enter Tryz.func49, Tryz.ntmps49
  go_wp2_with fail
  go_loop [1] (fun vi => ∃ k : Nat, k ≤ s.size ∧ vi = .int .i64 k ∧ Hid (k + skipL false (s.data.toList.drop k) = r)) (fun vi => s.size - (intOf vi).toNat)
  case atStart => exact ⟨i, hi, rfl, HR⟩
  case round =>
    clear HR
    obtain ⟨k, hk, rfl, HQ⟩ := hrel
    by_cases hlt : k < s.size
    · have hd := drop_at s k hlt
      have hq := HQ.out
      rw [hd] at hq
      have hc := s[k].toNat_lt
      by_cases h32 : s[k].toNat = 32 ∨ s[k].toNat = 9 ∨ s[k].toNat = 10
      · rw [skip_sp h32] at hq
        have HN := Lib.hid (show k + 1 + skipL false (s.data.toList.drop (k + 1)) = r by omega)
        clear hd hq
        by_cases n1 : s[k].toNat = 32
        · have e1 : ((s[k].toNat : Int) == 32) = true := by simp; omega
          clear h32 n1 hc HQ
          go_wp2_with fail
          go_round
          case rel => exact ⟨k + 1, by omega, by go_num, HN⟩
          case measure => simp [intOf]; omega
        · have e1 : ((s[k].toNat : Int) == 32) = false := by simp; omega
          by_cases n2 : s[k].toNat = 9
          · have e2 : ((s[k].toNat : Int) == 9) = true := by simp; omega
            clear h32 n1 n2 hc HQ
            go_wp2_with fail
            go_round
            case rel => exact ⟨k + 1, by omega, by go_num, HN⟩
            case measure => simp [intOf]; omega
          · have e2 : ((s[k].toNat : Int) == 9) = false := by simp; omega
            have e3 : ((s[k].toNat : Int) == 10) = true := by simp; omega
            clear h32 n1 n2 hc HQ
            go_wp2_with fail
            go_round
            case rel => exact ⟨k + 1, by omega, by go_num, HN⟩
            case measure => simp [intOf]; omega
      · have n1 : s[k].toNat ≠ 32 := by omega
        have n2 : s[k].toNat ≠ 9 := by omega
        have n3 : s[k].toNat ≠ 10 := by omega
        have e1 : ((s[k].toNat : Int) == 32) = false := by simp; omega
        have e2 : ((s[k].toNat : Int) == 9) = false := by simp; omega
        have e3 : ((s[k].toNat : Int) == 10) = false := by simp; omega
        have e10 : ((s[k].toNat : Int) != 10) = true := by simp; omega
        by_cases h47 : s[k].toNat = 47
        · by_cases hk1 : k + 1 < s.size
          · have hd1 := drop_at s (k + 1) hk1
            by_cases h48 : s[k + 1].toNat = 47
            · rw [hd1, skip_cm h47 h48, ← hd1, ← hd] at hq
              have HN := Lib.hid hq
              have HW : Hid (∀ h : k < s.size, s[k].toNat = 10 → k < k) := Lib.hid fun h e => by omega
              have e4 : ((s[k].toNat : Int) == 47) = true := by simp; omega
              have e5 : ((s[k + 1].toNat : Int) == 47) = true := by simp; omega
              have hk1' : (k : Int) + 1 < (s.size : Int) := by omega
              clear hd hq hd1 h32 h47 h48 hc n1 n2 n3 HQ
              go_wp2_with fail
              go_loop [1] (fun vi => ∃ m : Nat, (m ≤ s.size ∧ k ≤ m) ∧ vi = .int .i64 m ∧ Hid (m + skipL true (s.data.toList.drop m) = r) ∧ Hid (∀ h : m < s.size, s[m].toNat = 10 → k < m)) (fun vi => s.size - (intOf vi).toNat)
              case atStart => exact ⟨k, ⟨by omega, Nat.le_refl _⟩, rfl, HN, HW⟩
              case round =>
                clear HN
                obtain ⟨m, ⟨hm, hkm⟩, rfl, HM, HV⟩ := hrel
                by_cases hlt2 : m < s.size
                · have hd2 := drop_at s m hlt2
                  have hq2 := HM.out
                  rw [hd2] at hq2
                  by_cases n10 : s[m].toNat = 10
                  · rw [cm_nl n10, ← hd2] at hq2
                    have HN := Lib.hid hq2
                    have hlt3 : k < m := HV.out hlt2 n10
                    have e6 : ((s[m].toNat : Int) != 10) = false := by simp; omega
                    clear hq2 hd2 n10 HM
                    go_wp2_with fail
                    go_round
                    case rel => exact ⟨m, by omega, by go_num, HN⟩
                    case measure => simp [intOf]; omega
                  · rw [cm_on n10] at hq2
                    have HN := Lib.hid (show m + 1 + skipL true (s.data.toList.drop (m + 1)) = r by omega)
                    have e6 : ((s[m].toNat : Int) != 10) = true := by simp; omega
                    clear hq2 hd2 n10 HM
                    go_wp2_with fail
                    go_round
                    case rel => exact ⟨m + 1, ⟨by omega, by omega⟩, by go_num, HN, Lib.hid fun _ _ => by omega⟩
                    case measure => simp [intOf]; omega
                · rw [drop_end s m (by omega)] at HM
                  have HN := Lib.hid (show m + skipL false (s.data.toList.drop m) = r by rw [drop_end s m (by omega)]; exact HM.out)
                  clear HM
                  go_wp2_with fail
                  go_round
                  case rel => exact ⟨m, by omega, by go_num, HN⟩
                  case measure => simp [intOf]; omega
            · have h0 : skipL false (s[k] :: s.data.toList.drop (k + 1)) = 0 := skip_no n1 n2 n3 fun _ d hd' => by rw [hd1] at hd'; cases hd'; exact h48
              rw [h0] at hq
              have HE := Lib.hid (show r = k from hq.symm)
              have e4 : ((s[k].toNat : Int) == 47) = true := by simp; omega
              have e5 : ((s[k + 1].toNat : Int) == 47) = false := by simp; omega
              have hk1' : (k : Int) + 1 < (s.size : Int) := by omega
              clear hd hq hd1 h32 h47 h48 hc n1 n2 n3 HQ h0
              go_wp2_with fail
              go_ret
              exact ⟨by rw [HE.out] <;> rfl, rfl⟩
          · have h0 : skipL false (s[k] :: s.data.toList.drop (k + 1)) = 0 := skip_no n1 n2 n3 fun _ d hd' => by rw [drop_end s (k + 1) (by omega)] at hd'; cases hd'
            rw [h0] at hq
            have HE := Lib.hid (show r = k from hq.symm)
            have e4 : ((s[k].toNat : Int) == 47) = true := by simp; omega
            clear hd hq h32 h47 hc n1 n2 n3 HQ h0
            go_wp2_with fail
            go_ret
            exact ⟨by rw [HE.out] <;> rfl, rfl⟩
        · have h0 : skipL false (s[k] :: s.data.toList.drop (k + 1)) = 0 := skip_no n1 n2 n3 fun h => absurd h h47
          rw [h0] at hq
          have HE := Lib.hid (show r = k from hq.symm)
          have e4 : ((s[k].toNat : Int) == 47) = false := by simp; omega
          clear hd hq h32 h47 hc n1 n2 n3 HQ h0
          go_wp2_with fail
          go_ret
          exact ⟨by rw [HE.out] <;> rfl, rfl⟩
    · rw [drop_end s k (by omega)] at HQ
      have HE := Lib.hid (show r = k from HQ.out.symm)
      clear HQ
      go_wp2_with fail
      go_ret
      exact ⟨by rw [HE.out] <;> rfl, rfl⟩
end Go.Proofs.YtokfmclbninkmaaGreatDoor.Lx
/- DERIVED. The contracts of the reference's Same (over tokens that are one) and Join. By an AI agent. -/
namespace Go.Proofs.YtokfmclbninkmaaGreatDoor.Lx
open Go Go.ChangeShapes Go.WideShapes Go.ChangeAt Go.RowKit Args
set_option linter.unusedVariables false
set_option linter.unusedSimpArgs false
def tkC (t : Tk) : List Value := [.int .i64 (t.k : Int), .string ⟨t.s.toArray⟩, .int .i64 (t.at_ : Int)]
theorem below_drewN {B : Nat} {w w' : World} (h : Below B w w') (n : Nat) : Below B w (w'.drewN n) := ⟨h.os, h.tape, h.output, h.size, h.block⟩
end Go.Proofs.YtokfmclbninkmaaGreatDoor.Lx
/- DERIVED. What is read does not hang on what stands behind it. Of no program. By an AI agent. -/
namespace Go.Proofs.YtokfmclbninkmaaGreatDoor.Pa
open Lx
section
variable {e : Tk} {l2 : List Tk}
end
end Go.Proofs.YtokfmclbninkmaaGreatDoor.Pa
/- DERIVED. Two programs one behind the other are one. Of no program. By an AI agent. -/
namespace Go.Proofs.YtokfmclbninkmaaGreatDoor.Pa
open Lx
/-- An outcome with trees ahead of its own. -/
def pre (a : List Tr) : Out → Out
  | .ok l r => .ok (a ++ l) r
  | .bad p e => .bad p e
/-- The words of a text have the end behind them, and there alone. -/
theorem words_et {s : Bs} (h : (wordsL s).er = 0) : Et (wordsL s).l := by
  obtain ⟨hne, ho⟩ := words_order s h
  refine ⟨(wordsL s).l.dropLast, (wordsL s).l.getLast hne, (List.dropLast_concat_getLast hne).symm, ?_, fun t ht => ?_⟩
  · have hl := List.length_pos_iff.2 hne
    have hx : (wordsL s).l[(wordsL s).l.length - 1]? = some ((wordsL s).l.getLast hne) := by
      rw [List.getLast_eq_getElem, List.getElem?_eq_getElem (by omega)]
    exact ((ho _ _ hx).2.2.1).2 (by omega)
  · obtain ⟨j, hj, hjt⟩ := List.getElem_of_mem ht
    rw [List.length_dropLast] at hj
    rw [List.getElem_dropLast] at hjt
    have hx : (wordsL s).l[j]? = some t := by rw [List.getElem?_eq_getElem (by omega), hjt]
    intro hk
    have := ((ho j t hx).2.2.1).1 hk
    omega
/-- What is wrong is told at a place in the text. -/
theorem tells {num : Bs → Nat × Nat} {s : Bs} (h : (wordsL s).er = 0) {f d a e : Nat} {nt : NT} (hp : pF num f nt d (wordsL s).l = some (.bad a e)) : a ≤ s.length ∧ (e = 100 ∨ e = 150) := by
  have hg := pF_good num f nt d _ (words_et h)
  rw [hp] at hg
  obtain ⟨⟨t, ht, rfl⟩, he⟩ := hg
  obtain ⟨j, hj, hjt⟩ := List.getElem_of_mem ht
  have := ((words_order s h).2 j t (by rw [List.getElem?_eq_getElem hj, hjt])).1
  exact ⟨by omega, he⟩
end Go.Proofs.YtokfmclbninkmaaGreatDoor.Pa
