/- DERIVED. LxRes, LxPa, LxPb, LxPs in one text. By an AI agent. -/
import Derived.Test.YtpoepignpdfleaaGreatDoorZ01
import Derived.Laws.Rows
import Derived.WalkKit
import Derived.Test.YtpoepignpdfleaaGreatDoorZ05
import Derived.Test.YtpoepignpdfleaaGreatDoorZ02
import Derived.Test.YtpoepignpdfleaaGreatDoorZ16
import Derived.Test.YtpoepignpdfleaaGreatDoorZ17
import Derived.Shelf.Strings.SlTrimAscii
import Derived.OwnWalk
import Derived.RegionTactic
import Derived.Lib.Walk
import Derived.Lib.Slices
/- DERIVED. Of no program: what a function hands back whose results lie in cells. By an AI agent. -/
namespace Go.Proofs.YtpoepignpdfleaaGreatDoor.Args
open Go Go.RowKit
theorem loadVar_plain {P : Program} {w : World} {ty : TypeId} {p : Addr} {v : Value} (ha : (isAgg ty).run P w = .ok false w) (hc : w.cell? p = some v) : (loadVar ty p).run P w = .ok v w := by
  unfold loadVar
  rw [Sem.run_bind, ha]
  simp only [Result.andThen]
  simp [load, Sem.run, hc]
theorem results_ct {fn : Func} {p u : Tmp} {ty : TypeId} (h : fn.results = #[.cell p ty, .tmp u]) {P : Program} (tmps : Array Value) (w : World) (g : Nat) (v : Value)
    (hp : tmps.getD p undef = .pointer (some ⟨g, 0, none⟩)) (hL : (loadVar ty ⟨g, 0, none⟩).run P w = .ok v w) :
    (results fn tmps).run P w = .ok (.tuple #[v, tmps.getD u undef]) w := by
  have hp' : tmps[p]?.getD undef = .pointer (some ⟨g, 0, none⟩) := by simpa using hp
  simp [results, h, hp', asAddr, hL]
theorem results_cc {fn : Func} {p q : Tmp} {ty tz : TypeId} (h : fn.results = #[.cell p ty, .cell q tz]) {P : Program} (tmps : Array Value) (w : World) (g g2 : Nat) (v v2 : Value)
    (hp : tmps.getD p undef = .pointer (some ⟨g, 0, none⟩)) (hq : tmps.getD q undef = .pointer (some ⟨g2, 0, none⟩))
    (hL : (loadVar ty ⟨g, 0, none⟩).run P w = .ok v w) (hM : (loadVar tz ⟨g2, 0, none⟩).run P w = .ok v2 w) :
    (results fn tmps).run P w = .ok (.tuple #[v, v2]) w := by
  have hp' : tmps[p]?.getD undef = .pointer (some ⟨g, 0, none⟩) := by simpa using hp
  have hq' : tmps[q]?.getD undef = .pointer (some ⟨g2, 0, none⟩) := by simpa using hq
  simp [results, h, hp', hq', asAddr, hL, hM]
theorem results_ccc {fn : Func} {p q r : Tmp} {tx ty tz : TypeId} (h : fn.results = #[.cell p tx, .cell q ty, .cell r tz]) {P : Program} (tmps : Array Value) (w : World) (g1 g2 g3 : Nat) (v1 v2 v3 : Value)
    (hp : tmps.getD p undef = .pointer (some ⟨g1, 0, none⟩)) (hq : tmps.getD q undef = .pointer (some ⟨g2, 0, none⟩)) (hr : tmps.getD r undef = .pointer (some ⟨g3, 0, none⟩))
    (h1 : (loadVar tx ⟨g1, 0, none⟩).run P w = .ok v1 w) (h2 : (loadVar ty ⟨g2, 0, none⟩).run P w = .ok v2 w) (h3 : (loadVar tz ⟨g3, 0, none⟩).run P w = .ok v3 w) :
    (results fn tmps).run P w = .ok (.tuple #[v1, v2, v3]) w := by
  have hp' : tmps[p]?.getD undef = .pointer (some ⟨g1, 0, none⟩) := by simpa using hp
  have hq' : tmps[q]?.getD undef = .pointer (some ⟨g2, 0, none⟩) := by simpa using hq
  have hr' : tmps[r]?.getD undef = .pointer (some ⟨g3, 0, none⟩) := by simpa using hr
  simp [results, h, hp', hq', hr', asAddr, h1, h2, h3]
end Go.Proofs.YtpoepignpdfleaaGreatDoor.Args
/- DERIVED. The contracts of the program's letter, digit, inNumber, inName, run, Word. By an AI agent. -/
namespace Go.Proofs.YtpoepignpdfleaaGreatDoor.Lx
open Go Go.ChangeShapes Go.WideShapes Go.ChangeAt Go.RowKit Args
set_option linter.unusedVariables false
set_option linter.unusedSimpArgs false
theorem pletter (c : UInt8) (w : World) : Calls Tryz.prog 93 #[.int .u8 ((c.toNat : Nat) : Int)] w fun e w' => e = .returned (.bool (letB c)) ∧ w = w' := by
  have hb : letB c = ((decide (65 ≤ c.toNat) && decide (c.toNat ≤ 90)) || (decide (97 ≤ c.toNat) && decide (c.toNat ≤ 122))) := rfl
  generalize letB c = b at *
  generalize c.toNat = k at *
  by_cases h1 : 65 ≤ k
  · by_cases h2 : k ≤ 90
    · have HB := Lib.hid (show b = true by rw [hb]; simp [h1, h2])
      have i1 : decide ((65 : Int) ≤ (k : Int)) = true := by simp; omega
      have i2 : decide ((k : Int) ≤ 90) = true := by simp; omega
      clear hb h1 h2
      go_enter Tryz.func93, Tryz.ntmps93
      go_wp2_with fail
      go_ret
      exact ⟨(congrArg (fun b => Ending.returned (Value.bool b)) HB.out).symm, rfl⟩
    · by_cases h3 : 97 ≤ k
      · by_cases h4 : k ≤ 122
        · have HB := Lib.hid (show b = true by rw [hb]; simp [h3, h4])
          have i1 : decide ((65 : Int) ≤ (k : Int)) = true := by simp; omega
          have i2 : decide ((k : Int) ≤ 90) = false := by simp; omega
          have i3 : decide ((97 : Int) ≤ (k : Int)) = true := by simp; omega
          have i4 : decide ((k : Int) ≤ 122) = true := by simp; omega
          clear hb h1 h2 h3 h4
          go_enter Tryz.func93, Tryz.ntmps93
          go_wp2_with fail
          go_ret
          exact ⟨(congrArg (fun b => Ending.returned (Value.bool b)) HB.out).symm, rfl⟩
        · have HB := Lib.hid (show b = false by rw [hb]; simp; omega)
          have i1 : decide ((65 : Int) ≤ (k : Int)) = true := by simp; omega
          have i2 : decide ((k : Int) ≤ 90) = false := by simp; omega
          have i3 : decide ((97 : Int) ≤ (k : Int)) = true := by simp; omega
          have i4 : decide ((k : Int) ≤ 122) = false := by simp; omega
          clear hb h1 h2 h3 h4
          go_enter Tryz.func93, Tryz.ntmps93
          go_wp2_with fail
          go_ret
          exact ⟨(congrArg (fun b => Ending.returned (Value.bool b)) HB.out).symm, rfl⟩
      · have HB := Lib.hid (show b = false by rw [hb]; simp; omega)
        have i1 : decide ((65 : Int) ≤ (k : Int)) = true := by simp; omega
        have i2 : decide ((k : Int) ≤ 90) = false := by simp; omega
        have i3 : decide ((97 : Int) ≤ (k : Int)) = false := by simp; omega
        clear hb h1 h2 h3
        go_enter Tryz.func93, Tryz.ntmps93
        go_wp2_with fail
        go_ret
        exact ⟨(congrArg (fun b => Ending.returned (Value.bool b)) HB.out).symm, rfl⟩
  · have HB := Lib.hid (show b = false by rw [hb]; simp; omega)
    have i1 : decide ((65 : Int) ≤ (k : Int)) = false := by simp; omega
    have i3 : decide ((97 : Int) ≤ (k : Int)) = false := by simp; omega
    clear hb h1
    go_enter Tryz.func93, Tryz.ntmps93
    go_wp2_with fail
    go_ret
    exact ⟨(congrArg (fun b => Ending.returned (Value.bool b)) HB.out).symm, rfl⟩
theorem pdigit (c : UInt8) (w : World) : Calls Tryz.prog 97 #[.int .u8 ((c.toNat : Nat) : Int)] w fun e w' => e = .returned (.bool (numB c)) ∧ w = w' := by
  have hb : numB c = (decide (48 ≤ c.toNat) && decide (c.toNat ≤ 57)) := rfl
  generalize numB c = b at *
  generalize c.toNat = k at *
  by_cases h1 : 48 ≤ k
  · by_cases h2 : k ≤ 57
    · have HB := Lib.hid (show b = true by rw [hb]; simp [h1, h2])
      have i1 : decide ((48 : Int) ≤ (k : Int)) = true := by simp; omega
      have i2 : decide ((k : Int) ≤ 57) = true := by simp; omega
      clear hb h1 h2
      go_enter Tryz.func97, Tryz.ntmps97
      go_wp2_with fail
      go_ret
      exact ⟨(congrArg (fun b => Ending.returned (Value.bool b)) HB.out).symm, rfl⟩
    · have HB := Lib.hid (show b = false by rw [hb]; simp; omega)
      have i1 : decide ((48 : Int) ≤ (k : Int)) = true := by simp; omega
      have i2 : decide ((k : Int) ≤ 57) = false := by simp; omega
      clear hb h1 h2
      go_enter Tryz.func97, Tryz.ntmps97
      go_wp2_with fail
      go_ret
      exact ⟨(congrArg (fun b => Ending.returned (Value.bool b)) HB.out).symm, rfl⟩
  · have HB := Lib.hid (show b = false by rw [hb]; simp; omega)
    have i1 : decide ((48 : Int) ≤ (k : Int)) = false := by simp; omega
    clear hb h1
    go_enter Tryz.func97, Tryz.ntmps97
    go_wp2_with fail
    go_ret
    exact ⟨(congrArg (fun b => Ending.returned (Value.bool b)) HB.out).symm, rfl⟩
theorem pinNumber (c : UInt8) (w : World) : Calls Tryz.prog 98 #[.int .u8 ((c.toNat : Nat) : Int)] w fun e w' => e = .returned (.bool (onB false c)) ∧ w = w' := by
  have HL := Lib.hid (pletter c); have HD := Lib.hid (pdigit c)
  have hb : onB false c = (letB c || numB c) := by unfold onB; simp
  rw [hb]
  cases hl : letB c with
  | true =>
    rw [hl] at HL
    clear hb hl
    go_enter Tryz.func98, Tryz.ntmps98
    go_wp2_with fail
    refine (HL.out _).mono ?_
    rintro e w' ⟨rfl, rfl⟩
    go_wp2_with fail
    go_ret
    exact ⟨rfl, rfl⟩
  | false =>
    rw [hl] at HL
    generalize numB c = b at *
    clear hb hl
    go_enter Tryz.func98, Tryz.ntmps98
    go_wp2_with fail
    refine (HL.out _).mono ?_
    rintro e w' ⟨rfl, rfl⟩
    go_wp2_with fail
    refine (HD.out _).mono ?_
    rintro e w' ⟨rfl, rfl⟩
    go_wp2_with fail
    go_ret
    exact ⟨rfl, rfl⟩
theorem pinName (c : UInt8) (w : World) : Calls Tryz.prog 96 #[.int .u8 ((c.toNat : Nat) : Int)] w fun e w' => e = .returned (.bool (onB true c)) ∧ w = w' := by
  have HL := Lib.hid (pinNumber c)
  have hb : onB true c = (onB false c || decide (c.toNat = 95)) := by
    unfold onB
    have : (c == 95) = decide (c.toNat = 95) := by
      by_cases h : c.toNat = 95
      · have : c = 95 := by rw [u8_of h]; rfl
        subst this; decide
      · have : c ≠ 95 := u8_ne h (by decide)
        simp [h, this]
    simp [this]
  rw [hb]
  generalize onB false c = x at *
  cases x with
  | true =>
    clear hb
    generalize c.toNat = k at *
    go_enter Tryz.func96, Tryz.ntmps96
    go_wp2_with fail
    refine (HL.out _).mono ?_
    rintro e w' ⟨rfl, rfl⟩
    go_wp2_with fail
    go_ret
    exact ⟨rfl, rfl⟩
  | false =>
    clear hb
    generalize c.toNat = k at *
    by_cases hk : k = 95
    · have HB := Lib.hid (show (false || decide (k = 95)) = true by simp [hk])
      have i1 : ((k : Int) == 95) = true := by simp; omega
      clear hk
      go_enter Tryz.func96, Tryz.ntmps96
      go_wp2_with fail
      refine (HL.out _).mono ?_
      rintro e w' ⟨rfl, rfl⟩
      go_wp2_with fail
      go_ret
      exact ⟨(congrArg (fun b => Ending.returned (Value.bool b)) HB.out).symm, rfl⟩
    · have HB := Lib.hid (show (false || decide (k = 95)) = false by simp [hk])
      have i1 : ((k : Int) == 95) = false := by simp; omega
      clear hk
      go_enter Tryz.func96, Tryz.ntmps96
      go_wp2_with fail
      refine (HL.out _).mono ?_
      rintro e w' ⟨rfl, rfl⟩
      go_wp2_with fail
      go_ret
      exact ⟨(congrArg (fun b => Ending.returned (Value.bool b)) HB.out).symm, rfl⟩
set_option maxHeartbeats 1000000 in
theorem prunT (s : ByteArray) (hs : s.size ≤ 140737488351232) (w : World) : Calls Tryz.prog 95 #[.string s, .func (.func 96) #[] #[]] w fun e w' => e = .returned (.string ⟨(s.data.toList.take (runL true s.data.toList)).toArray⟩) ∧ w = w' := by
  have HC := Lib.hid pinName
  obtain ⟨R, hR⟩ : ∃ R, runL true s.data.toList = R := ⟨_, rfl⟩
  have hRl : R ≤ s.size := by have := runL_le true s.data.toList; rw [hR] at this; simpa using this
  have hex : (⟨(s.data.toList.take R).toArray⟩ : ByteArray) = s.extract 0 R := by rw [Lib.extract_eq]; simp
  rw [hR, hex]
  have HR := Lib.hid hR
  clear hR hex
  go_enter Tryz.func95, Tryz.ntmps95
  go_wp2_with fail
  go_loop [5] (fun vi => ∃ k : Nat, k ≤ s.size ∧ vi = .int .i64 k ∧ Hid (k + runL true (s.data.toList.drop k) = R)) (fun vi => s.size - (intOf vi).toNat)
  case atStart => exact ⟨0, by omega, rfl, Lib.hid (by rw [List.drop_zero, HR.out]; omega)⟩
  case round =>
    obtain ⟨k, hk, rfl, HQ⟩ := hrel
    by_cases hlt : k < s.size
    · have hd := drop_at s k hlt
      have hq := HQ.out
      rw [hd, runL_cons] at hq
      have hc := HC.out s[k]
      cases ho : onB true s[k] with
      | true =>
        rw [ho, if_pos rfl] at hq
        rw [ho] at hc
        have HK := Lib.hid hc
        have HN := Lib.hid (show k + 1 + runL true (s.data.toList.drop (k + 1)) = R by omega)
        clear hd hq hc ho HQ
        go_wp2_with fail
        refine (HK.out _).mono ?_
        rintro e w' ⟨rfl, rfl⟩
        go_wp2_with fail
        go_round
        case rel => exact ⟨k + 1, by omega, by go_num, HN⟩
        case measure => simp [intOf]; omega
      | false =>
        rw [ho, if_neg (by decide)] at hq
        rw [ho] at hc
        have HK := Lib.hid hc
        have HN := Lib.hid (show R = k by omega)
        have hkR : R ≤ k := by omega
        clear hd hq hc ho HQ
        go_wp2_with fail
        refine (HK.out _).mono ?_
        rintro e w' ⟨rfl, rfl⟩
        go_wp2_with fail
        go_ret
        exact ⟨by rw [HN.out] <;> rfl, rfl⟩
    · have hq := HQ.out
      rw [drop_end s k (by omega)] at hq
      have HN := Lib.hid (show R = k by have : runL true [] = 0 := rfl; omega)
      clear hq HQ
      go_wp2_with fail
      go_ret
      exact ⟨by rw [HN.out] <;> rfl, rfl⟩
set_option maxHeartbeats 1000000 in
theorem prunF (s : ByteArray) (hs : s.size ≤ 140737488351232) (w : World) : Calls Tryz.prog 95 #[.string s, .func (.func 98) #[] #[]] w fun e w' => e = .returned (.string ⟨(s.data.toList.take (runL false s.data.toList)).toArray⟩) ∧ w = w' := by
  have HC := Lib.hid pinNumber
  obtain ⟨R, hR⟩ : ∃ R, runL false s.data.toList = R := ⟨_, rfl⟩
  have hRl : R ≤ s.size := by have := runL_le false s.data.toList; rw [hR] at this; simpa using this
  have hex : (⟨(s.data.toList.take R).toArray⟩ : ByteArray) = s.extract 0 R := by rw [Lib.extract_eq]; simp
  rw [hR, hex]
  have HR := Lib.hid hR
  clear hR hex
  go_enter Tryz.func95, Tryz.ntmps95
  go_wp2_with fail
  go_loop [5] (fun vi => ∃ k : Nat, k ≤ s.size ∧ vi = .int .i64 k ∧ Hid (k + runL false (s.data.toList.drop k) = R)) (fun vi => s.size - (intOf vi).toNat)
  case atStart => exact ⟨0, by omega, rfl, Lib.hid (by rw [List.drop_zero, HR.out]; omega)⟩
  case round =>
    obtain ⟨k, hk, rfl, HQ⟩ := hrel
    by_cases hlt : k < s.size
    · have hd := drop_at s k hlt
      have hq := HQ.out
      rw [hd, runL_cons] at hq
      have hc := HC.out s[k]
      cases ho : onB false s[k] with
      | true =>
        rw [ho, if_pos rfl] at hq
        rw [ho] at hc
        have HK := Lib.hid hc
        have HN := Lib.hid (show k + 1 + runL false (s.data.toList.drop (k + 1)) = R by omega)
        clear hd hq hc ho HQ
        go_wp2_with fail
        refine (HK.out _).mono ?_
        rintro e w' ⟨rfl, rfl⟩
        go_wp2_with fail
        go_round
        case rel => exact ⟨k + 1, by omega, by go_num, HN⟩
        case measure => simp [intOf]; omega
      | false =>
        rw [ho, if_neg (by decide)] at hq
        rw [ho] at hc
        have HK := Lib.hid hc
        have HN := Lib.hid (show R = k by omega)
        have hkR : R ≤ k := by omega
        clear hd hq hc ho HQ
        go_wp2_with fail
        refine (HK.out _).mono ?_
        rintro e w' ⟨rfl, rfl⟩
        go_wp2_with fail
        go_ret
        exact ⟨by rw [HN.out] <;> rfl, rfl⟩
    · have hq := HQ.out
      rw [drop_end s k (by omega)] at hq
      have HN := Lib.hid (show R = k by have : runL false [] = 0 := rfl; omega)
      clear hq HQ
      go_wp2_with fail
      go_ret
      exact ⟨by rw [HN.out] <;> rfl, rfl⟩
set_option maxHeartbeats 1000000 in
theorem pword (s : ByteArray) (w : World) : Calls Tryz.prog 112 #[.string s] w fun e w' => e = .returned (.bool (wordB s.data.toList)) ∧ w = w' := by
  cases h0 : (s.toList == ([115, 101, 99, 114, 101, 116] : Bs)) with
  | true =>
    have HB := Lib.hid (show wordB s.data.toList = true by rw [← ByteArray.toList_eq, eq_of_beq h0]; decide)
    generalize wordB s.data.toList = b at *
    go_enter Tryz.func112, Tryz.ntmps112
    go_wp2_with fail
    go_ret
    exact ⟨(congrArg (fun b => Ending.returned (Value.bool b)) HB.out).symm, rfl⟩
  | false =>
    cases h1 : (s.toList == ([112, 117, 98, 108, 105, 99] : Bs)) with
    | true =>
      have HB := Lib.hid (show wordB s.data.toList = true by rw [← ByteArray.toList_eq, eq_of_beq h1]; decide)
      generalize wordB s.data.toList = b at *
      go_enter Tryz.func112, Tryz.ntmps112
      go_wp2_with fail
      go_ret
      exact ⟨(congrArg (fun b => Ending.returned (Value.bool b)) HB.out).symm, rfl⟩
    | false =>
      cases h2 : (s.toList == ([111, 117, 116] : Bs)) with
      | true =>
        have HB := Lib.hid (show wordB s.data.toList = true by rw [← ByteArray.toList_eq, eq_of_beq h2]; decide)
        generalize wordB s.data.toList = b at *
        go_enter Tryz.func112, Tryz.ntmps112
        go_wp2_with fail
        go_ret
        exact ⟨(congrArg (fun b => Ending.returned (Value.bool b)) HB.out).symm, rfl⟩
      | false =>
        cases h3 : (s.toList == ([115, 104, 111, 119] : Bs)) with
        | true =>
          have HB := Lib.hid (show wordB s.data.toList = true by rw [← ByteArray.toList_eq, eq_of_beq h3]; decide)
          generalize wordB s.data.toList = b at *
          go_enter Tryz.func112, Tryz.ntmps112
          go_wp2_with fail
          go_ret
          exact ⟨(congrArg (fun b => Ending.returned (Value.bool b)) HB.out).symm, rfl⟩
        | false =>
          cases h4 : (s.toList == ([102, 111, 114] : Bs)) with
          | true =>
            have HB := Lib.hid (show wordB s.data.toList = true by rw [← ByteArray.toList_eq, eq_of_beq h4]; decide)
            generalize wordB s.data.toList = b at *
            go_enter Tryz.func112, Tryz.ntmps112
            go_wp2_with fail
            go_ret
            exact ⟨(congrArg (fun b => Ending.returned (Value.bool b)) HB.out).symm, rfl⟩
          | false =>
            cases h5 : (s.toList == ([105, 110] : Bs)) with
            | true =>
              have HB := Lib.hid (show wordB s.data.toList = true by rw [← ByteArray.toList_eq, eq_of_beq h5]; decide)
              generalize wordB s.data.toList = b at *
              go_enter Tryz.func112, Tryz.ntmps112
              go_wp2_with fail
              go_ret
              exact ⟨(congrArg (fun b => Ending.returned (Value.bool b)) HB.out).symm, rfl⟩
            | false =>
              cases h6 : (s.toList == ([102, 110] : Bs)) with
              | true =>
                have HB := Lib.hid (show wordB s.data.toList = true by rw [← ByteArray.toList_eq, eq_of_beq h6]; decide)
                generalize wordB s.data.toList = b at *
                go_enter Tryz.func112, Tryz.ntmps112
                go_wp2_with fail
                go_ret
                exact ⟨(congrArg (fun b => Ending.returned (Value.bool b)) HB.out).symm, rfl⟩
              | false =>
                have HB := Lib.hid (show wordB s.data.toList = false by
                  have hx : ∀ l : Bs, (s.toList == l) = false → ¬ s.data.toList = l := fun l h e => by
                    rw [beq_eq_false_iff_ne] at h; exact h (by rw [← e, ByteArray.toList_eq])
                  have g0 := hx _ h0; have g1 := hx _ h1; have g2 := hx _ h2; have g3 := hx _ h3; have g4 := hx _ h4; have g5 := hx _ h5; have g6 := hx _ h6
                  unfold wordB words7
                  rw [List.contains_eq_mem, decide_eq_false_iff_not]
                  simp only [List.mem_cons, List.not_mem_nil, or_false]
                  rintro (h | h | h | h | h | h | h)
                  · exact g0 h
                  · exact g1 h
                  · exact g2 h
                  · exact g3 h
                  · exact g4 h
                  · exact g5 h
                  · exact g6 h)
                generalize wordB s.data.toList = b at *
                go_enter Tryz.func112, Tryz.ntmps112
                go_wp2_with fail
                go_ret
                exact ⟨(congrArg (fun b => Ending.returned (Value.bool b)) HB.out).symm, rfl⟩
end Go.Proofs.YtpoepignpdfleaaGreatDoor.Lx
/- DERIVED. The contracts of the program's Name, named, passed; of strings.TrimLeft at its blanks and of strings.Cut at one byte. By an AI agent. -/
namespace Go.Proofs.YtpoepignpdfleaaGreatDoor.Lx
open Go Go.ChangeShapes Go.WideShapes Go.ChangeAt Go.RowKit Args
set_option linter.unusedVariables false
set_option linter.unusedSimpArgs false
theorem run_all {S : Bs} (h : S.all (onB true) = true) : S.take (runL true S) = S := by
  have : runL true S = S.length := by
    induction S with
    | nil => rfl
    | cons c r ih =>
      rw [List.all_cons, Bool.and_eq_true] at h
      rw [runL_cons, if_pos h.1, ih h.2]; rfl
  rw [this, List.take_length]
theorem all_run {S : Bs} (h : S.take (runL true S) = S) : S.all (onB true) = true := by
  have key : ∀ S : Bs, (S.take (runL true S)).all (onB true) = true := fun S => by
    induction S with
    | nil => rfl
    | cons c r ih =>
      rw [runL_cons]
      split
      · rename_i hc
        rw [List.take_succ_cons, List.all_cons, hc, ih]; rfl
      · rfl
  have := key S
  rwa [h] at this
set_option maxHeartbeats 2000000 in
theorem pname (s : ByteArray) (hs : s.size ≤ 140737488351232) (w : World) :
    Calls Tryz.prog 113 #[.string s] w fun e w' => e = .returned (.bool (nameB s.data.toList)) ∧ w = w' := by
  obtain ⟨b, hb⟩ : ∃ b, nameB s.data.toList = b := ⟨_, rfl⟩
  rw [hb]
  by_cases h0 : s.size = 0
  · have hsn : s = ⟨#[]⟩ := by
      apply ByteArray.ext; exact Array.eq_empty_of_size_eq_zero h0
    subst hsn
    have HB : b = false := hb.symm
    subst HB
    clear hb
    go_enter Tryz.func113, Tryz.ntmps113
    go_wp2_with fail
    go_ret
    exact ⟨rfl, rfl⟩
  · have h0' : 0 < s.size := by omega
    have hcs := bytes_cons s h0'
    have hne : (s.toList == []) = false := by rw [ByteArray.toList_eq, hcs]; rfl
    have hl : s.data.toList.length = s.size := by simp
    have hw := pword s w
    have hlt := pletter s[0] w
    have hrn := prunT s hs w
    have hb' : b = (decide (s.size ≤ 32) && letB s[0] && !wordB s.data.toList && s.data.toList.all (onB true)) := by
      rw [← hb, ← hl]
      unfold nameB
      rw [hcs]
    clear hb
    cases hL : letB s[0] with
    | false =>
      rw [hL] at hlt hb'
      have HB : b = false := by rw [hb']; simp
      subst HB
      have HL := Lib.hid hlt
      clear hlt hb' hw hrn hcs hl hL h0
      go_enter Tryz.func113, Tryz.ntmps113
      go_wp2_with fail
      refine HL.out.mono ?_
      rintro e w' ⟨rfl, rfl⟩
      go_wp2_with fail
      go_ret
      exact ⟨rfl, rfl⟩
    | true =>
      rw [hL] at hlt hb'
      have HL := Lib.hid hlt
      cases hA : s.data.toList.all (onB true) with
      | false =>
        rw [hA] at hb'
        have HB : b = false := by rw [hb']; simp
        subst HB
        have htn : ((⟨(s.data.toList.take (runL true s.data.toList)).toArray⟩ : ByteArray).toList == s.toList) = false := by
          rw [beq_eq_false_iff_ne, ByteArray.toList_eq, ByteArray.toList_eq]
          intro h
          have := all_run h
          rw [hA] at this; cases this
        generalize (⟨(s.data.toList.take (runL true s.data.toList)).toArray⟩ : ByteArray) = t at *
        have HR := Lib.hid hrn
        clear hlt hb' hw hrn hcs hl hL h0 hA
        go_enter Tryz.func113, Tryz.ntmps113
        go_wp2_with fail
        refine HL.out.mono ?_
        rintro e w' ⟨rfl, rfl⟩
        go_wp2_with fail
        refine HR.out.mono ?_
        rintro e w' ⟨rfl, rfl⟩
        go_wp2_with fail
        go_ret
        exact ⟨rfl, rfl⟩
      | true =>
        rw [hA] at hb'
        rw [run_all hA, show (⟨s.data.toList.toArray⟩ : ByteArray) = s from rfl] at hrn
        have HR := Lib.hid hrn
        by_cases h32 : s.size ≤ 32
        · have HB : b = !wordB s.data.toList := by rw [hb']; simp [h32]
          have i1 : decide ((s.size : Int) ≤ 32) = true := by simp; omega
          generalize wordB s.data.toList = x at *
          subst HB
          have HW := Lib.hid hw
          clear hlt hb' hw hrn hcs hl hL h0 hA
          go_enter Tryz.func113, Tryz.ntmps113
          go_wp2_with fail
          refine HL.out.mono ?_
          rintro e w' ⟨rfl, rfl⟩
          go_wp2_with fail
          refine HR.out.mono ?_
          rintro e w' ⟨rfl, rfl⟩
          go_wp2_with fail
          refine HW.out.mono ?_
          rintro e w' ⟨rfl, rfl⟩
          go_wp2_with fail
          go_ret
          exact ⟨rfl, rfl⟩
        · have HB : b = false := by rw [hb']; simp; omega
          have i1 : decide ((s.size : Int) ≤ 32) = false := by simp; omega
          subst HB
          clear hlt hb' hw hrn hcs hl hL h0 hA
          go_enter Tryz.func113, Tryz.ntmps113
          go_wp2_with fail
          refine HL.out.mono ?_
          rintro e w' ⟨rfl, rfl⟩
          go_wp2_with fail
          refine HR.out.mono ?_
          rintro e w' ⟨rfl, rfl⟩
          go_wp2_with fail
          go_ret
          exact ⟨rfl, rfl⟩
/-- What first and named hand back: a token without its place, an error. -/
def FtV (o : Option (Nat × Bs)) : Value := match o with
  | some (k, t) => .tuple #[.agg #[.int .i64 (k : Int), .string ⟨t.toArray⟩, .int .i64 0], .int .i64 0]
  | none => .tuple #[.agg #[.int .i64 0, .string ⟨#[]⟩, .int .i64 0], .int .i64 100]
def namedL (S : Bs) : Option (Nat × Bs) := if wordB S = true then some (3, S) else if nameB S = true then some (1, S) else none
theorem loadT {w : World} {g : Nat} {a b c : Value} (h : Blk w g 76 #[a, b, c]) : (loadVar 76 ⟨g, 0, none⟩).run Tryz.prog w = .ok (.agg #[a, b, c]) w :=
  run_loadVar_row w g _ _ _ (0, 0) _ h Tryz.underlying76 rfl (by kernel_rfl)
set_option maxHeartbeats 2000000 in
theorem pnamed (s : ByteArray) (hs : s.size ≤ 100000) (w : World) :
    Calls Tryz.prog 94 #[.string s] w fun e w' => e = .returned (FtV (namedL s.data.toList)) ∧ Below w.heap.size w w' := by
  have hw := pword s
  have hn := pname s (by omega)
  cases hW : wordB s.data.toList with
  | true =>
    rw [hW] at hw
    have HV := Lib.hid (show FtV (namedL s.data.toList) = .tuple #[.agg #[.int .i64 3, .string s, .int .i64 0], .int .i64 0] by unfold namedL; rw [if_pos hW]; rfl)
    generalize FtV (namedL s.data.toList) = V at *
    have HW := Lib.hid hw
    clear hw hn hW
    go_enter Tryz.func94, Tryz.ntmps94
    go_wp2_with fail
    refine (HW.out _).mono ?_
    rintro e w' ⟨rfl, rfl⟩
    go_wp2_with fail
    refine bodyPost_ret (results_ct rfl _ _ w.heap.size _ rfl (loadT (Blk.new _ _ _))) rfl ?_
    exact ⟨(congrArg Ending.returned HV.out).symm, (Below.refl _ _).alloc (Nat.le_refl _) _⟩
  | false =>
    rw [hW] at hw
    cases hN : nameB s.data.toList with
    | false =>
      rw [hN] at hn
      have HV := Lib.hid (show FtV (namedL s.data.toList) = .tuple #[.agg #[.int .i64 0, .string ⟨#[]⟩, .int .i64 0], .int .i64 100] by unfold namedL; rw [if_neg (by rw [hW]; decide), if_neg (by rw [hN]; decide)]; rfl)
      generalize FtV (namedL s.data.toList) = V at *
      have HW := Lib.hid hw; have HN := Lib.hid hn
      clear hw hn hW hN
      go_enter Tryz.func94, Tryz.ntmps94
      go_wp2_with fail
      refine (HW.out _).mono ?_
      rintro e w' ⟨rfl, rfl⟩
      go_wp2_with fail
      refine (HN.out _).mono ?_
      rintro e w' ⟨rfl, rfl⟩
      go_wp2_with fail
      refine bodyPost_ret (results_ct rfl _ _ w.heap.size _ rfl (loadT (Blk.new _ _ _))) rfl ?_
      exact ⟨(congrArg Ending.returned HV.out).symm, (Below.refl _ _).alloc (Nat.le_refl _) _⟩
    | true =>
      rw [hN] at hn
      have HV := Lib.hid (show FtV (namedL s.data.toList) = .tuple #[.agg #[.int .i64 1, .string s, .int .i64 0], .int .i64 0] by unfold namedL; rw [if_neg (by rw [hW]; decide), if_pos hN]; rfl)
      generalize FtV (namedL s.data.toList) = V at *
      have HW := Lib.hid hw; have HN := Lib.hid hn
      clear hw hn hW hN
      go_enter Tryz.func94, Tryz.ntmps94
      go_wp2_with fail
      refine (HW.out _).mono ?_
      rintro e w' ⟨rfl, rfl⟩
      go_wp2_with fail
      refine (HN.out _).mono ?_
      rintro e w' ⟨rfl, rfl⟩
      go_wp2_with fail
      refine bodyPost_ret (results_ct rfl _ _ w.heap.size _ rfl (loadT (Blk.new _ _ _))) rfl ?_
      exact ⟨(congrArg Ending.returned HV.out).symm, (Below.refl _ _).alloc (Nat.le_refl _) _⟩
theorem trim (s : ByteArray) (w : World) : Calls Tryz.prog 90 #[.string s, .string ⟨#[32, 9, 10]⟩] w fun e w' => e = .returned (.string ⟨(s.data.toList.dropWhile (blk3.contains ·)).toArray⟩) ∧ Below w.heap.size w w' :=
  Any.strings_TrimLeft_laid Tryz.lays161 (by kernel_rfl) s ⟨#[32, 9, 10]⟩ w (by decide) (fun j b hj => by
    have hm := List.mem_of_getElem? hj
    simp at hm
    rcases hm with rfl | rfl | rfl <;> decide)
theorem aft_at : ∀ (r : Bs), (Lib.indexByte r 10 = -1 ∧ aft r = []) ∨ ∃ i : Nat, Lib.indexByte r 10 = i ∧ i < r.length ∧ aft r = r.drop (i + 1)
  | [] => .inl ⟨rfl, rfl⟩
  | d :: r => by
    have e : Lib.indexByte (d :: r) 10 = if d == 10 then 0 else if Lib.indexByte r 10 == -1 then -1 else Lib.indexByte r 10 + 1 := rfl
    have e2 : aft (d :: r) = if d == 10 then r else aft r := rfl
    by_cases hd : (d == 10) = true
    · exact .inr ⟨0, by rw [e, if_pos hd]; rfl, by simp, by rw [e2, if_pos hd]; rfl⟩
    · rcases aft_at r with ⟨h1, h2⟩ | ⟨i, h1, h2, h3⟩
      · exact .inl ⟨by rw [e, if_neg hd, h1]; rfl, by rw [e2, if_neg hd, h2]⟩
      · refine .inr ⟨i + 1, ?_, by simp; omega, by rw [e2, if_neg hd, h3]; rfl⟩
        rw [e, if_neg hd, h1, if_neg (by rw [beq_iff_eq]; omega)]; push_cast; rfl
set_option maxHeartbeats 2000000 in
theorem cutlite (s : ByteArray) (hs : s.size ≤ 100000) (w : World) : Calls Tryz.prog 111 #[.string s, .string ⟨#[10]⟩] w fun e w' => (∃ a b, e = .returned (.tuple #[.string a, .string ⟨(aft s.data.toList).toArray⟩, .bool b])) ∧ ∃ n, w' = w.drewN n := by
  have hx := Tryz.stringslite_Index_one s 10 w
  rcases aft_at s.data.toList with ⟨h1, h2⟩ | ⟨i, h1, h2, h3⟩
  · rw [h1] at hx
    rw [h2]
    have HX := Lib.hid hx
    clear hx h1 h2
    go_enter Tryz.func111, Tryz.ntmps111
    go_wp2_with fail
    refine HX.out.mono ?_
    rintro e w' ⟨rfl, rfl⟩
    go_wp2_with fail
    go_ret3
    exact ⟨⟨_, _, rfl⟩, 0, rfl⟩
  · rw [h1] at hx
    have hsz : s.data.toList.length = s.size := by simp
    have hil : i + 1 ≤ s.size := by omega
    have hex : (⟨(aft s.data.toList).toArray⟩ : ByteArray) = s.extract (i + 1) s.size := by
      rw [h3, Lib.extract_eq]
      congr 2
      rw [List.take_of_length_le]
      rw [List.length_drop]; simp
    rw [hex]
    have HX := Lib.hid hx
    clear hx h1 h2 h3 hex
    go_enter Tryz.func111, Tryz.ntmps111
    go_wp2_with fail
    refine HX.out.mono ?_
    rintro e w' ⟨rfl, rfl⟩
    go_wp2_with fail
    go_quiet (fail)
    go_wp2_with fail
    go_ret3
    exact ⟨⟨_, _, rfl⟩, nq, rfl⟩
theorem cut (s : ByteArray) (hs : s.size ≤ 100000) (w : World) : Calls Tryz.prog 92 #[.string s, .string ⟨#[10]⟩] w fun e w' => (∃ a b, e = .returned (.tuple #[.string a, .string ⟨(aft s.data.toList).toArray⟩, .bool b])) ∧ ∃ n, w' = w.drewN n := by
  have HX := Lib.hid (cutlite s hs w)
  generalize (⟨(aft s.data.toList).toArray⟩ : ByteArray) = t at *
  go_enter Tryz.func92, Tryz.ntmps92
  go_wp2_with fail
  refine HX.out.mono ?_
  rintro e w' ⟨⟨a, b, rfl⟩, n, rfl⟩
  go_wp2_with fail
  go_ret3
  exact ⟨⟨_, _, rfl⟩, n, rfl⟩
end Go.Proofs.YtpoepignpdfleaaGreatDoor.Lx
/- DERIVED. The contract of the program's passed. By an AI agent. -/
namespace Go.Proofs.YtpoepignpdfleaaGreatDoor.Lx
open Go Go.ChangeShapes Go.WideShapes Go.ChangeAt Go.RowKit Args
set_option linter.unusedVariables false
set_option linter.unusedSimpArgs false
def szOf : Value → Nat
  | .string t => t.size
  | _ => 0
theorem bs_size (l : Bs) : (⟨l.toArray⟩ : ByteArray).size = l.length := by show l.toArray.size = _; simp
theorem has (s p : ByteArray) (w : World) : Calls Tryz.prog 91 #[.string s, .string p] w fun e w' => e = .returned (.bool (p.data.toList.isPrefixOf s.data.toList)) ∧ w = w' :=
  (Tryz.strings_HasPrefix s p w).mono fun e w' ⟨h1, h2⟩ => ⟨h1, h2.symm⟩
/-- What holds at the head of a round: blanks are passed over, and what is left behind all is the same. -/
def PsI (R : Bs) (n : Nat) (t : ByteArray) : Prop := (∃ r : Bs, r.dropWhile (blk3.contains ·) = t.data.toList) ∧ restL t.data.toList = R ∧ t.size ≤ n
set_option maxHeartbeats 2000000 in
theorem passed (s : ByteArray) (hs : s.size ≤ 100000) (w : World) : Calls Tryz.prog 74 #[.string s] w fun e w' => e = .returned (.string ⟨(restL s.data.toList).toArray⟩) ∧ Below w.heap.size w w' := by
  obtain ⟨R, hR⟩ : ∃ R, restL s.data.toList = R := ⟨_, rfl⟩
  rw [hR]
  have ht := trim s w
  have hdl : (s.data.toList.dropWhile (blk3.contains ·)).length ≤ s.size := by
    have := (List.dropWhile_sublist (l := s.data.toList) (blk3.contains ·)).length_le
    simpa using this
  have hI : PsI R 100000 ⟨(s.data.toList.dropWhile (blk3.contains ·)).toArray⟩ := ⟨⟨_, rfl⟩, by show restL (s.data.toList.dropWhile (blk3.contains ·)) = R; rw [rest_trim, hR], by rw [bs_size]; omega⟩
  generalize (⟨(s.data.toList.dropWhile (blk3.contains ·)).toArray⟩ : ByteArray) = t0 at *
  have HT := Lib.hid ht; have HI := Lib.hid hI
  clear ht hI hR hdl
  go_enter Tryz.func74, Tryz.ntmps74
  go_wp2_with fail
  refine HT.out.mono ?_
  rintro e w1 ⟨rfl, hb1⟩
  have HB1 := Lib.hid hb1
  clear hb1
  go_wp2_with fail
  go_loopw [0] (fun vi wr => ∃ t : ByteArray, vi = .string t ∧ Hid (PsI R 100000 t) ∧ Hid (Below w.heap.size w wr)) (fun vi _ => szOf vi)
  case atStart => exact ⟨t0, rfl, HI, HB1⟩
  case round =>
    obtain ⟨t, rfl, HP, HW⟩ := hrel
    obtain ⟨⟨r, hr⟩, hrest, hsz⟩ := HP.out
    have hsw := HW.out.size
    cases hp : ([47, 47] : Bs).isPrefixOf t.data.toList with
    | false =>
      have hh := has t ⟨#[47, 47]⟩ wr
      rw [show (⟨#[47, 47]⟩ : ByteArray).data.toList = [47, 47] from rfl, hp] at hh
      have hE := rest_stop hr hp
      have HH := Lib.hid hh
      have HE := Lib.hid (show (⟨R.toArray⟩ : ByteArray) = t by rw [← hrest, hE])
      clear hh hE hr hrest hp HP
      go_wp2_with fail
      refine HH.out.mono ?_
      rintro e w' ⟨rfl, rfl⟩
      go_wp2_with fail
      go_ret
      exact ⟨by rw [HE.out] <;> rfl, HW.out⟩
    | true =>
      have hh := has t ⟨#[47, 47]⟩ wr
      rw [show (⟨#[47, 47]⟩ : ByteArray).data.toList = [47, 47] from rfl, hp] at hh
      obtain ⟨c1, c2⟩ := rest_cm hp
      have hcut := cut t hsz wr
      have htl : t.data.toList.length = t.size := by simp
      obtain ⟨q, hq⟩ : ∃ q : ByteArray, (⟨(aft t.data.toList).toArray⟩ : ByteArray) = q := ⟨_, rfl⟩
      have hqd : q.data.toList = aft t.data.toList := by rw [← hq]
      have hqs : q.size = (aft t.data.toList).length := by rw [← hq, bs_size]
      rw [hq] at hcut
      have htr := fun W => trim q W
      have hdl : (q.data.toList.dropWhile (blk3.contains ·)).length ≤ q.size := by
        have := (List.dropWhile_sublist (l := q.data.toList) (blk3.contains ·)).length_le
        simpa using this
      have hI : PsI R 100000 ⟨(q.data.toList.dropWhile (blk3.contains ·)).toArray⟩ := ⟨⟨_, rfl⟩, by show restL (q.data.toList.dropWhile (blk3.contains ·)) = R; rw [rest_trim, hqd, ← c1, hrest], by rw [bs_size]; omega⟩
      have hms : (⟨(q.data.toList.dropWhile (blk3.contains ·)).toArray⟩ : ByteArray).size < t.size := by rw [bs_size]; omega
      generalize (⟨(q.data.toList.dropWhile (blk3.contains ·)).toArray⟩ : ByteArray) = t2 at *
      have HH := Lib.hid hh; have HC := Lib.hid hcut; have HT2 := Lib.hid htr; have HI2 := Lib.hid hI
      clear hh hcut htr hI hr hrest hp HP c1 c2 hq hqd hqs hdl htl
      go_wp2_with fail
      refine HH.out.mono ?_
      rintro e w' ⟨rfl, rfl⟩
      go_wp2_with fail
      refine HC.out.mono ?_
      rintro e w' ⟨⟨a, b, rfl⟩, n, rfl⟩
      have HW2 := Lib.hid (show Below w.heap.size w (wr.drewN n) from below_drewN HW.out n)
      have hsw2 : w.heap.size ≤ (wr.drewN n).heap.size := hsw
      generalize wr.drewN n = w2 at *
      clear HC HH
      go_wp2_with fail
      refine (HT2.out _).mono ?_
      rintro e w3 ⟨rfl, hb3⟩
      have HW3 := Lib.hid (show Below w.heap.size w w3 from HW2.out.trans (hb3.mono hsw2))
      clear hb3
      go_wp2_with fail
      go_round
      case rel => exact ⟨t2, rfl, HI2, HW3⟩
      case measure => exact hms
end Go.Proofs.YtpoepignpdfleaaGreatDoor.Lx
