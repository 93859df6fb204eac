/- DERIVED. LxPa in one text. By an AI agent. -/
import Derived.Test.YtkdpndoollbggaaDoorZ07
import Derived.Test.YtkdpndoollbggaaDoorZ01
/- DERIVED. The contracts of the program's letter, digit, inNumber, inName, run, Word. By an AI agent. -/
namespace Go.Proofs.YtkdpndoollbggaaDoor.Lx
open Go Go.ChangeShapes Go.WideShapes Go.ChangeAt Go.RowKit Args
set_option linter.unusedVariables false
set_option linter.unusedSimpArgs false
theorem pletter (c : UInt8) (w : World) : Calls Tryd.prog 49 #[.int .u8 ((c.toNat : Nat) : Int)] w fun e w' => e = .returned (.bool (letB c)) ∧ w = w' := by
  have hb : letB c = ((decide (65 ≤ c.toNat) && decide (c.toNat ≤ 90)) || (decide (97 ≤ c.toNat) && decide (c.toNat ≤ 122))) := rfl
  generalize letB c = b at *
  generalize c.toNat = k at *
  by_cases h1 : 65 ≤ k
  · by_cases h2 : k ≤ 90
    · have HB := Lib.hid (show b = true by rw [hb]; simp [h1, h2])
      have i1 : decide ((65 : Int) ≤ (k : Int)) = true := by simp; omega
      have i2 : decide ((k : Int) ≤ 90) = true := by simp; omega
      clear hb h1 h2
      go_enter Tryd.func49, Tryd.ntmps49
      go_wp2_with fail
      go_ret
      exact ⟨(congrArg (fun b => Ending.returned (Value.bool b)) HB.out).symm, rfl⟩
    · by_cases h3 : 97 ≤ k
      · by_cases h4 : k ≤ 122
        · have HB := Lib.hid (show b = true by rw [hb]; simp [h3, h4])
          have i1 : decide ((65 : Int) ≤ (k : Int)) = true := by simp; omega
          have i2 : decide ((k : Int) ≤ 90) = false := by simp; omega
          have i3 : decide ((97 : Int) ≤ (k : Int)) = true := by simp; omega
          have i4 : decide ((k : Int) ≤ 122) = true := by simp; omega
          clear hb h1 h2 h3 h4
          go_enter Tryd.func49, Tryd.ntmps49
          go_wp2_with fail
          go_ret
          exact ⟨(congrArg (fun b => Ending.returned (Value.bool b)) HB.out).symm, rfl⟩
        · have HB := Lib.hid (show b = false by rw [hb]; simp; omega)
          have i1 : decide ((65 : Int) ≤ (k : Int)) = true := by simp; omega
          have i2 : decide ((k : Int) ≤ 90) = false := by simp; omega
          have i3 : decide ((97 : Int) ≤ (k : Int)) = true := by simp; omega
          have i4 : decide ((k : Int) ≤ 122) = false := by simp; omega
          clear hb h1 h2 h3 h4
          go_enter Tryd.func49, Tryd.ntmps49
          go_wp2_with fail
          go_ret
          exact ⟨(congrArg (fun b => Ending.returned (Value.bool b)) HB.out).symm, rfl⟩
      · have HB := Lib.hid (show b = false by rw [hb]; simp; omega)
        have i1 : decide ((65 : Int) ≤ (k : Int)) = true := by simp; omega
        have i2 : decide ((k : Int) ≤ 90) = false := by simp; omega
        have i3 : decide ((97 : Int) ≤ (k : Int)) = false := by simp; omega
        clear hb h1 h2 h3
        go_enter Tryd.func49, Tryd.ntmps49
        go_wp2_with fail
        go_ret
        exact ⟨(congrArg (fun b => Ending.returned (Value.bool b)) HB.out).symm, rfl⟩
  · have HB := Lib.hid (show b = false by rw [hb]; simp; omega)
    have i1 : decide ((65 : Int) ≤ (k : Int)) = false := by simp; omega
    have i3 : decide ((97 : Int) ≤ (k : Int)) = false := by simp; omega
    clear hb h1
    go_enter Tryd.func49, Tryd.ntmps49
    go_wp2_with fail
    go_ret
    exact ⟨(congrArg (fun b => Ending.returned (Value.bool b)) HB.out).symm, rfl⟩
theorem pdigit (c : UInt8) (w : World) : Calls Tryd.prog 53 #[.int .u8 ((c.toNat : Nat) : Int)] w fun e w' => e = .returned (.bool (numB c)) ∧ w = w' := by
  have hb : numB c = (decide (48 ≤ c.toNat) && decide (c.toNat ≤ 57)) := rfl
  generalize numB c = b at *
  generalize c.toNat = k at *
  by_cases h1 : 48 ≤ k
  · by_cases h2 : k ≤ 57
    · have HB := Lib.hid (show b = true by rw [hb]; simp [h1, h2])
      have i1 : decide ((48 : Int) ≤ (k : Int)) = true := by simp; omega
      have i2 : decide ((k : Int) ≤ 57) = true := by simp; omega
      clear hb h1 h2
      go_enter Tryd.func53, Tryd.ntmps53
      go_wp2_with fail
      go_ret
      exact ⟨(congrArg (fun b => Ending.returned (Value.bool b)) HB.out).symm, rfl⟩
    · have HB := Lib.hid (show b = false by rw [hb]; simp; omega)
      have i1 : decide ((48 : Int) ≤ (k : Int)) = true := by simp; omega
      have i2 : decide ((k : Int) ≤ 57) = false := by simp; omega
      clear hb h1 h2
      go_enter Tryd.func53, Tryd.ntmps53
      go_wp2_with fail
      go_ret
      exact ⟨(congrArg (fun b => Ending.returned (Value.bool b)) HB.out).symm, rfl⟩
  · have HB := Lib.hid (show b = false by rw [hb]; simp; omega)
    have i1 : decide ((48 : Int) ≤ (k : Int)) = false := by simp; omega
    clear hb h1
    go_enter Tryd.func53, Tryd.ntmps53
    go_wp2_with fail
    go_ret
    exact ⟨(congrArg (fun b => Ending.returned (Value.bool b)) HB.out).symm, rfl⟩
theorem pinNumber (c : UInt8) (w : World) : Calls Tryd.prog 54 #[.int .u8 ((c.toNat : Nat) : Int)] w fun e w' => e = .returned (.bool (onB false c)) ∧ w = w' := by
  have HL := Lib.hid (pletter c); have HD := Lib.hid (pdigit c)
  have hb : onB false c = (letB c || numB c) := by unfold onB; simp
  rw [hb]
  cases hl : letB c with
  | true =>
    rw [hl] at HL
    clear hb hl
    go_enter Tryd.func54, Tryd.ntmps54
    go_wp2_with fail
    refine (HL.out _).mono ?_
    rintro e w' ⟨rfl, rfl⟩
    go_wp2_with fail
    go_ret
    exact ⟨rfl, rfl⟩
  | false =>
    rw [hl] at HL
    generalize numB c = b at *
    clear hb hl
    go_enter Tryd.func54, Tryd.ntmps54
    go_wp2_with fail
    refine (HL.out _).mono ?_
    rintro e w' ⟨rfl, rfl⟩
    go_wp2_with fail
    refine (HD.out _).mono ?_
    rintro e w' ⟨rfl, rfl⟩
    go_wp2_with fail
    go_ret
    exact ⟨rfl, rfl⟩
theorem pinName (c : UInt8) (w : World) : Calls Tryd.prog 52 #[.int .u8 ((c.toNat : Nat) : Int)] w fun e w' => e = .returned (.bool (onB true c)) ∧ w = w' := by
  have HL := Lib.hid (pinNumber c)
  have hb : onB true c = (onB false c || decide (c.toNat = 95)) := by
    unfold onB
    have : (c == 95) = decide (c.toNat = 95) := by
      by_cases h : c.toNat = 95
      · have : c = 95 := by rw [u8_of h]; rfl
        subst this; decide
      · have : c ≠ 95 := u8_ne h (by decide)
        simp [h, this]
    simp [this]
  rw [hb]
  generalize onB false c = x at *
  cases x with
  | true =>
    clear hb
    generalize c.toNat = k at *
    go_enter Tryd.func52, Tryd.ntmps52
    go_wp2_with fail
    refine (HL.out _).mono ?_
    rintro e w' ⟨rfl, rfl⟩
    go_wp2_with fail
    go_ret
    exact ⟨rfl, rfl⟩
  | false =>
    clear hb
    generalize c.toNat = k at *
    by_cases hk : k = 95
    · have HB := Lib.hid (show (false || decide (k = 95)) = true by simp [hk])
      have i1 : ((k : Int) == 95) = true := by simp; omega
      clear hk
      go_enter Tryd.func52, Tryd.ntmps52
      go_wp2_with fail
      refine (HL.out _).mono ?_
      rintro e w' ⟨rfl, rfl⟩
      go_wp2_with fail
      go_ret
      exact ⟨(congrArg (fun b => Ending.returned (Value.bool b)) HB.out).symm, rfl⟩
    · have HB := Lib.hid (show (false || decide (k = 95)) = false by simp [hk])
      have i1 : ((k : Int) == 95) = false := by simp; omega
      clear hk
      go_enter Tryd.func52, Tryd.ntmps52
      go_wp2_with fail
      refine (HL.out _).mono ?_
      rintro e w' ⟨rfl, rfl⟩
      go_wp2_with fail
      go_ret
      exact ⟨(congrArg (fun b => Ending.returned (Value.bool b)) HB.out).symm, rfl⟩
set_option maxHeartbeats 1000000 in
theorem prunT (s : ByteArray) (hs : s.size ≤ 140737488351232) (w : World) : Calls Tryd.prog 51 #[.string s, .func (.func 52) #[] #[]] w fun e w' => e = .returned (.string ⟨(s.data.toList.take (runL true s.data.toList)).toArray⟩) ∧ w = w' := by
  have HC := Lib.hid pinName
  obtain ⟨R, hR⟩ : ∃ R, runL true s.data.toList = R := ⟨_, rfl⟩
  have hRl : R ≤ s.size := by have := runL_le true s.data.toList; rw [hR] at this; simpa using this
  have hex : (⟨(s.data.toList.take R).toArray⟩ : ByteArray) = s.extract 0 R := by rw [Lib.extract_eq]; simp
  rw [hR, hex]
  have HR := Lib.hid hR
  clear hR hex
  go_enter Tryd.func51, Tryd.ntmps51
  go_wp2_with fail
  go_loop [5] (fun vi => ∃ k : Nat, k ≤ s.size ∧ vi = .int .i64 k ∧ Hid (k + runL true (s.data.toList.drop k) = R)) (fun vi => s.size - (intOf vi).toNat)
  case atStart => exact ⟨0, by omega, rfl, Lib.hid (by rw [List.drop_zero, HR.out]; omega)⟩
  case round =>
    obtain ⟨k, hk, rfl, HQ⟩ := hrel
    by_cases hlt : k < s.size
    · have hd := drop_at s k hlt
      have hq := HQ.out
      rw [hd, runL_cons] at hq
      have hc := HC.out s[k]
      cases ho : onB true s[k] with
      | true =>
        rw [ho, if_pos rfl] at hq
        rw [ho] at hc
        have HK := Lib.hid hc
        have HN := Lib.hid (show k + 1 + runL true (s.data.toList.drop (k + 1)) = R by omega)
        clear hd hq hc ho HQ
        go_wp2_with fail
        refine (HK.out _).mono ?_
        rintro e w' ⟨rfl, rfl⟩
        go_wp2_with fail
        go_round
        case rel => exact ⟨k + 1, by omega, by go_num, HN⟩
        case measure => simp [intOf]; omega
      | false =>
        rw [ho, if_neg (by decide)] at hq
        rw [ho] at hc
        have HK := Lib.hid hc
        have HN := Lib.hid (show R = k by omega)
        have hkR : R ≤ k := by omega
        clear hd hq hc ho HQ
        go_wp2_with fail
        refine (HK.out _).mono ?_
        rintro e w' ⟨rfl, rfl⟩
        go_wp2_with fail
        go_ret
        exact ⟨by rw [HN.out] <;> rfl, rfl⟩
    · have hq := HQ.out
      rw [drop_end s k (by omega)] at hq
      have HN := Lib.hid (show R = k by have : runL true [] = 0 := rfl; omega)
      clear hq HQ
      go_wp2_with fail
      go_ret
      exact ⟨by rw [HN.out] <;> rfl, rfl⟩
set_option maxHeartbeats 1000000 in
theorem prunF (s : ByteArray) (hs : s.size ≤ 140737488351232) (w : World) : Calls Tryd.prog 51 #[.string s, .func (.func 54) #[] #[]] w fun e w' => e = .returned (.string ⟨(s.data.toList.take (runL false s.data.toList)).toArray⟩) ∧ w = w' := by
  have HC := Lib.hid pinNumber
  obtain ⟨R, hR⟩ : ∃ R, runL false s.data.toList = R := ⟨_, rfl⟩
  have hRl : R ≤ s.size := by have := runL_le false s.data.toList; rw [hR] at this; simpa using this
  have hex : (⟨(s.data.toList.take R).toArray⟩ : ByteArray) = s.extract 0 R := by rw [Lib.extract_eq]; simp
  rw [hR, hex]
  have HR := Lib.hid hR
  clear hR hex
  go_enter Tryd.func51, Tryd.ntmps51
  go_wp2_with fail
  go_loop [5] (fun vi => ∃ k : Nat, k ≤ s.size ∧ vi = .int .i64 k ∧ Hid (k + runL false (s.data.toList.drop k) = R)) (fun vi => s.size - (intOf vi).toNat)
  case atStart => exact ⟨0, by omega, rfl, Lib.hid (by rw [List.drop_zero, HR.out]; omega)⟩
  case round =>
    obtain ⟨k, hk, rfl, HQ⟩ := hrel
    by_cases hlt : k < s.size
    · have hd := drop_at s k hlt
      have hq := HQ.out
      rw [hd, runL_cons] at hq
      have hc := HC.out s[k]
      cases ho : onB false s[k] with
      | true =>
        rw [ho, if_pos rfl] at hq
        rw [ho] at hc
        have HK := Lib.hid hc
        have HN := Lib.hid (show k + 1 + runL false (s.data.toList.drop (k + 1)) = R by omega)
        clear hd hq hc ho HQ
        go_wp2_with fail
        refine (HK.out _).mono ?_
        rintro e w' ⟨rfl, rfl⟩
        go_wp2_with fail
        go_round
        case rel => exact ⟨k + 1, by omega, by go_num, HN⟩
        case measure => simp [intOf]; omega
      | false =>
        rw [ho, if_neg (by decide)] at hq
        rw [ho] at hc
        have HK := Lib.hid hc
        have HN := Lib.hid (show R = k by omega)
        have hkR : R ≤ k := by omega
        clear hd hq hc ho HQ
        go_wp2_with fail
        refine (HK.out _).mono ?_
        rintro e w' ⟨rfl, rfl⟩
        go_wp2_with fail
        go_ret
        exact ⟨by rw [HN.out] <;> rfl, rfl⟩
    · have hq := HQ.out
      rw [drop_end s k (by omega)] at hq
      have HN := Lib.hid (show R = k by have : runL false [] = 0 := rfl; omega)
      clear hq HQ
      go_wp2_with fail
      go_ret
      exact ⟨by rw [HN.out] <;> rfl, rfl⟩
set_option maxHeartbeats 1000000 in
theorem pword (s : ByteArray) (w : World) : Calls Tryd.prog 64 #[.string s] w fun e w' => e = .returned (.bool (wordB s.data.toList)) ∧ w = w' := by
  cases h0 : (s.toList == ([115, 101, 99, 114, 101, 116] : Bs)) with
  | true =>
    have HB := Lib.hid (show wordB s.data.toList = true by rw [← ByteArray.toList_eq, eq_of_beq h0]; decide)
    generalize wordB s.data.toList = b at *
    go_enter Tryd.func64, Tryd.ntmps64
    go_wp2_with fail
    go_ret
    exact ⟨(congrArg (fun b => Ending.returned (Value.bool b)) HB.out).symm, rfl⟩
  | false =>
    cases h1 : (s.toList == ([112, 117, 98, 108, 105, 99] : Bs)) with
    | true =>
      have HB := Lib.hid (show wordB s.data.toList = true by rw [← ByteArray.toList_eq, eq_of_beq h1]; decide)
      generalize wordB s.data.toList = b at *
      go_enter Tryd.func64, Tryd.ntmps64
      go_wp2_with fail
      go_ret
      exact ⟨(congrArg (fun b => Ending.returned (Value.bool b)) HB.out).symm, rfl⟩
    | false =>
      cases h2 : (s.toList == ([111, 117, 116] : Bs)) with
      | true =>
        have HB := Lib.hid (show wordB s.data.toList = true by rw [← ByteArray.toList_eq, eq_of_beq h2]; decide)
        generalize wordB s.data.toList = b at *
        go_enter Tryd.func64, Tryd.ntmps64
        go_wp2_with fail
        go_ret
        exact ⟨(congrArg (fun b => Ending.returned (Value.bool b)) HB.out).symm, rfl⟩
      | false =>
        cases h3 : (s.toList == ([115, 104, 111, 119] : Bs)) with
        | true =>
          have HB := Lib.hid (show wordB s.data.toList = true by rw [← ByteArray.toList_eq, eq_of_beq h3]; decide)
          generalize wordB s.data.toList = b at *
          go_enter Tryd.func64, Tryd.ntmps64
          go_wp2_with fail
          go_ret
          exact ⟨(congrArg (fun b => Ending.returned (Value.bool b)) HB.out).symm, rfl⟩
        | false =>
          cases h4 : (s.toList == ([102, 111, 114] : Bs)) with
          | true =>
            have HB := Lib.hid (show wordB s.data.toList = true by rw [← ByteArray.toList_eq, eq_of_beq h4]; decide)
            generalize wordB s.data.toList = b at *
            go_enter Tryd.func64, Tryd.ntmps64
            go_wp2_with fail
            go_ret
            exact ⟨(congrArg (fun b => Ending.returned (Value.bool b)) HB.out).symm, rfl⟩
          | false =>
            cases h5 : (s.toList == ([105, 110] : Bs)) with
            | true =>
              have HB := Lib.hid (show wordB s.data.toList = true by rw [← ByteArray.toList_eq, eq_of_beq h5]; decide)
              generalize wordB s.data.toList = b at *
              go_enter Tryd.func64, Tryd.ntmps64
              go_wp2_with fail
              go_ret
              exact ⟨(congrArg (fun b => Ending.returned (Value.bool b)) HB.out).symm, rfl⟩
            | false =>
              cases h6 : (s.toList == ([102, 110] : Bs)) with
              | true =>
                have HB := Lib.hid (show wordB s.data.toList = true by rw [← ByteArray.toList_eq, eq_of_beq h6]; decide)
                generalize wordB s.data.toList = b at *
                go_enter Tryd.func64, Tryd.ntmps64
                go_wp2_with fail
                go_ret
                exact ⟨(congrArg (fun b => Ending.returned (Value.bool b)) HB.out).symm, rfl⟩
              | false =>
                have HB := Lib.hid (show wordB s.data.toList = false by
                  have hx : ∀ l : Bs, (s.toList == l) = false → ¬ s.data.toList = l := fun l h e => by
                    rw [beq_eq_false_iff_ne] at h; exact h (by rw [← e, ByteArray.toList_eq])
                  have g0 := hx _ h0; have g1 := hx _ h1; have g2 := hx _ h2; have g3 := hx _ h3; have g4 := hx _ h4; have g5 := hx _ h5; have g6 := hx _ h6
                  unfold wordB words7
                  rw [List.contains_eq_mem, decide_eq_false_iff_not]
                  simp only [List.mem_cons, List.not_mem_nil, or_false]
                  rintro (h | h | h | h | h | h | h)
                  · exact g0 h
                  · exact g1 h
                  · exact g2 h
                  · exact g3 h
                  · exact g4 h
                  · exact g5 h
                  · exact g6 h)
                generalize wordB s.data.toList = b at *
                go_enter Tryd.func64, Tryd.ntmps64
                go_wp2_with fail
                go_ret
                exact ⟨(congrArg (fun b => Ending.returned (Value.bool b)) HB.out).symm, rfl⟩
end Go.Proofs.YtkdpndoollbggaaDoor.Lx
