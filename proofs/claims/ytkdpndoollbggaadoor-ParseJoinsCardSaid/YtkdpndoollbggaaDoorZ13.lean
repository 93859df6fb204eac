/- DERIVED. PaNa, PaNb in one text. By an AI agent. -/
import Derived.Test.YtkdpndoollbggaaDoorRows
import Derived.WalkKit
import Derived.RegionTactic
import Derived.ProofKit
import Derived.Deep.QuietTactic
import Derived.BigQuiet
import Derived.Outline
import Derived.Lib.Hide
import Derived.WalkLawsBesides
import Derived.WalkSpells
import Derived.Lib.Strings
import Derived.Test.YtkdpndoollbggaaDoorZ12
/- DERIVED. Contracts of package word's digit and Number. By an AI agent. -/
namespace Go.Proofs.YtkdpndoollbggaaDoor.Num
open Go.ChangeShapes Go.WideShapes Go.ChangeAt Go.RowKit
set_option linter.unusedVariables false
/-- What a byte counts as a digit; 16, if nothing. -/
def dvN (c : Nat) : Nat := if 48 ≤ c ∧ c ≤ 57 then c - 48 else if 97 ≤ c ∧ c ≤ 102 then c - 87 else if 65 ≤ c ∧ c ≤ 70 then c - 55 else 16
theorem dvN_le (c : Nat) : dvN c ≤ 16 := by unfold dvN; split <;> (try split) <;> (try split) <;> omega
theorem digitC (c : Nat) (hc : c < 256) (w : World) : Calls Tryd.prog 83 #[.int .u8 c] w fun e w' => e = .returned (.int .u64 (dvN c : Nat)) ∧ w = w' := by
  by_cases h1 : 48 ≤ c ∧ c ≤ 57
  · have hd : dvN c = c - 48 := by simp [dvN, h1]
    obtain ⟨a, b⟩ := h1
    have HD := Lib.hid hd; clear hd
    go_enter Tryd.func83, Tryd.ntmps83
    go_wp2
    go_ret
    exact ⟨by rw [HD.out]; go_num, rfl⟩
  by_cases h2 : 97 ≤ c ∧ c ≤ 102
  · have hd : dvN c = c - 87 := by simp [dvN, h1, h2]
    obtain ⟨a, b⟩ := h2
    have HD := Lib.hid hd; clear hd h1
    have n1 : ¬ c ≤ 57 := by omega
    go_enter Tryd.func83, Tryd.ntmps83
    go_wp2
    go_ret
    exact ⟨by rw [HD.out]; go_num, rfl⟩
  by_cases h3 : 65 ≤ c ∧ c ≤ 70
  · have hd : dvN c = c - 55 := by simp [dvN, h1, h2, h3]
    obtain ⟨a, b⟩ := h3
    have HD := Lib.hid hd; clear hd h1 h2
    have n1 : ¬ c ≤ 57 := by omega
    have n2 : ¬ 97 ≤ c := by omega
    go_enter Tryd.func83, Tryd.ntmps83
    go_wp2
    go_ret
    exact ⟨by rw [HD.out]; go_num, rfl⟩
  have hd : dvN c = 16 := by simp [dvN, h1, h2, h3]
  have HD := Lib.hid hd; clear hd
  have hr : c < 48 ∨ (57 < c ∧ c < 65) ∨ (70 < c ∧ c < 97) ∨ 102 < c := by omega
  clear h1 h2 h3
  rcases hr with r | ⟨r1, r2⟩ | ⟨r1, r2⟩ | r
  all_goals
    go_enter Tryd.func83, Tryd.ntmps83
    go_wp2
    go_ret
    exact ⟨by rw [HD.out]; rfl, rfl⟩
def nrun (base : Nat) : List UInt8 → Nat → Option Nat
  | [], n => some n
  | c :: l, n => if dvN c.toNat < base then nrun base l (min (n * base + dvN c.toNat) 4294967296) else none
/-- The number that digits are, or why none: the number and the error. -/
def numR (base : Nat) (L : List UInt8) : Nat × Nat :=
  if L = [] then (0, 4) else match nrun base L 0 with
    | none => (0, 4)
    | some n => if n = 4294967296 then (0, 2) else (n, 0)
def resN (r : Nat × Nat) : Value := .tuple #[.int .u32 (r.1 : Nat), .int .i64 (r.2 : Nat)]
end Go.Proofs.YtkdpndoollbggaaDoor.Num
/- DERIVED. The contract of package word's Number. By an AI agent. -/
namespace Go.Proofs.YtkdpndoollbggaaDoor.Num
open Go.ChangeShapes Go.WideShapes Go.ChangeAt Go.RowKit
set_option linter.unusedVariables false
theorem nrun_step (base : Nat) (D : ByteArray) (k n : Nat) (hk : k < D.size) (hd : dvN (D[k].toNat) < base) :
    nrun base (D.data.toList.drop k) n = nrun base (D.data.toList.drop (k + 1)) (min (n * base + dvN (D[k].toNat)) 4294967296) := by
  rw [List.drop_eq_getElem_cons (by simpa using hk), nrun]
  exact if_pos hd
theorem nrun_none (base : Nat) (D : ByteArray) (k n : Nat) (hk : k < D.size) (hd : ¬ dvN (D[k].toNat) < base) : nrun base (D.data.toList.drop k) n = none := by
  rw [List.drop_eq_getElem_cons (by simpa using hk), nrun]
  exact if_neg hd
theorem numR_nil (base : Nat) (D : ByteArray) (h : D.size = 0) : numR base D.data.toList = (0, 4) := by
  have : D.data.toList.length = 0 := by simpa using h
  rw [List.length_eq_zero_iff.1 this]; rfl
theorem numR_none (base : Nat) (D : ByteArray) (h : D.size ≠ 0) (hr : nrun base D.data.toList 0 = none) : numR base D.data.toList = (0, 4) := by
  unfold numR
  rw [if_neg (by intro e; apply h; have := congrArg List.length e; simpa using this), hr]
theorem numR_some (base : Nat) (D : ByteArray) (n : Nat) (h : D.size ≠ 0) (hr : nrun base D.data.toList 0 = some n) : numR base D.data.toList = if n = 4294967296 then (0, 2) else (n, 0) := by
  unfold numR
  rw [if_neg (by intro e; apply h; have := congrArg List.length e; simpa using this), hr]
theorem empty_true (D : ByteArray) (h : D.size = 0) : D.toList.isEmpty = true := by
  rw [ByteArray.toList_eq]
  have : D.data.toList.length = 0 := by simpa using h
  rw [List.length_eq_zero_iff.1 this]; rfl
theorem empty_false (D : ByteArray) (h : ¬ D.size = 0) : D.toList.isEmpty = false := by
  rw [ByteArray.toList_eq]
  cases e : D.data.toList with
  | nil => exfalso; apply h; have := congrArg List.length e; simpa using this
  | cons => rfl
theorem nrun_end (base : Nat) (D : ByteArray) (n : Nat) : nrun base (D.data.toList.drop D.size) n = some n := by
  rw [List.drop_of_length_le (by simp)]; rfl
set_option maxHeartbeats 1600000 in
theorem numC (hex : Bool) (s D : ByteArray) (w : World) (hp : Lib.hasPrefix s.data.toList [48, 120] = hex) (hD : (⟨(Lib.trimPrefix s.data.toList [48, 120]).toArray⟩ : ByteArray) = D) (hsz : D.size ≤ maxLen) :
    Calls Tryd.prog 75 #[.string s] w fun e w' => e = .returned (resN (numR (if hex then 16 else 10) D.data.toList)) ∧ w = w' := by
  have hc := Tryd.strings_CutPrefix s ⟨#[48, 120]⟩ w
  rw [show (ByteArray.mk #[48, 120]).data.toList = [48, 120] from rfl, hp, hD] at hc
  have HC := Lib.hid hc
  unfold maxLen at hsz
  clear hc hp hD
  by_cases hnil : D.size = 0
  · have he := empty_true D hnil
    rw [numR_nil _ D hnil]
    clear hnil
    cases hex
    all_goals
      go_enter Tryd.func75, Tryd.ntmps75
      go_wp2_with fail
      refine HC.out.mono ?_; rintro e w' ⟨rfl, rfl⟩
      go_wp2
      go_ret2
      exact ⟨rfl, rfl⟩
  have hne := empty_false D hnil
  have HNE : Hid (D.size ≠ 0) := Lib.hid hnil
  cases hex
  all_goals
    simp only [Bool.false_eq_true, if_true, if_false]
    go_enter Tryd.func75, Tryd.ntmps75
    go_wp2_with fail
    refine HC.out.mono ?_; rintro e w' ⟨rfl, rfl⟩
    go_wp2
  · go_loop [7, 20] (fun vn vi => ∃ k n : Nat, k ≤ D.size ∧ vi = .int .i64 k ∧ vn = .int .u64 n ∧ n ≤ 4294967296 ∧ Hid (nrun 10 D.data.toList 0 = nrun 10 (D.data.toList.drop k) n)) (fun _ vi => D.size - (intOf vi).toNat)
    case atStart => exact ⟨0, 0, by omega, rfl, rfl, by omega, Lib.hid rfl⟩
    case round =>
      obtain ⟨k, n, hk, rfl, rfl, hn, HI⟩ := hrel
      clear hne hnil
      by_cases hlt : k < D.size
      · have hb : D[k].toNat < 256 := D[k].toNat_lt
        have hdc := digitC D[k].toNat hb
        have hdl := dvN_le D[k].toNat
        by_cases hd : dvN D[k].toNat < 10
        · have hst := nrun_step 10 D k n hlt hd
          generalize dvN D[k].toNat = d at hdc hdl hd hst
          have HS := Lib.hid hst; have HDC := Lib.hid hdc
          clear hst hdc
          go_wp2_with (go_at_call 83; refine (HDC.out _).mono ?_; rintro e w' ⟨rfl, rfl⟩)
          go_round
          case rel => exact ⟨k + 1, min (n * 10 + d) 4294967296, by omega, by go_num, by go_num, by omega, Lib.hid (by rw [HI.out, HS.out])⟩
          case measure => simp [intOf]; omega
        · have hst := nrun_none 10 D k n hlt hd
          rw [← HI.out] at hst
          have hfin := numR_none 10 D HNE.out hst
          generalize dvN D[k].toNat = d at hdc hdl hd
          have HF := Lib.hid hfin; have HDC := Lib.hid hdc
          clear hst hdc hfin
          go_wp2_with (go_at_call 83; refine (HDC.out _).mono ?_; rintro e w' ⟨rfl, rfl⟩)
          go_ret2
          exact ⟨by rw [HF.out]; rfl, rfl⟩
      · have : k = D.size := by omega
        subst this
        have hI := HI.out
        rw [nrun_end] at hI
        have hfin := numR_some 10 D n HNE.out hI
        clear hI HI
        by_cases hl : n < 4294967296
        · rw [if_neg (by omega)] at hfin
          have HF := Lib.hid hfin
          clear hfin
          go_wp2
          go_ret2
          exact ⟨by rw [HF.out]; rfl, rfl⟩
        · have : n = 4294967296 := by omega
          subst this
          rw [if_pos rfl] at hfin
          have HF := Lib.hid hfin
          clear hfin
          go_wp2
          go_ret2
          exact ⟨by rw [HF.out]; rfl, rfl⟩
  · go_loop [7, 20] (fun vn vi => ∃ k n : Nat, k ≤ D.size ∧ vi = .int .i64 k ∧ vn = .int .u64 n ∧ n ≤ 4294967296 ∧ Hid (nrun 16 D.data.toList 0 = nrun 16 (D.data.toList.drop k) n)) (fun _ vi => D.size - (intOf vi).toNat)
    case atStart => exact ⟨0, 0, by omega, rfl, rfl, by omega, Lib.hid rfl⟩
    case round =>
      obtain ⟨k, n, hk, rfl, rfl, hn, HI⟩ := hrel
      clear hne hnil
      by_cases hlt : k < D.size
      · have hb : D[k].toNat < 256 := D[k].toNat_lt
        have hdc := digitC D[k].toNat hb
        have hdl := dvN_le D[k].toNat
        by_cases hd : dvN D[k].toNat < 16
        · have hst := nrun_step 16 D k n hlt hd
          generalize dvN D[k].toNat = d at hdc hdl hd hst
          have HS := Lib.hid hst; have HDC := Lib.hid hdc
          clear hst hdc
          go_wp2_with (go_at_call 83; refine (HDC.out _).mono ?_; rintro e w' ⟨rfl, rfl⟩)
          go_round
          case rel => exact ⟨k + 1, min (n * 16 + d) 4294967296, by omega, by go_num, by go_num, by omega, Lib.hid (by rw [HI.out, HS.out])⟩
          case measure => simp [intOf]; omega
        · have hst := nrun_none 16 D k n hlt hd
          rw [← HI.out] at hst
          have hfin := numR_none 16 D HNE.out hst
          generalize dvN D[k].toNat = d at hdc hdl hd
          have HF := Lib.hid hfin; have HDC := Lib.hid hdc
          clear hst hdc hfin
          go_wp2_with (go_at_call 83; refine (HDC.out _).mono ?_; rintro e w' ⟨rfl, rfl⟩)
          go_ret2
          exact ⟨by rw [HF.out]; rfl, rfl⟩
      · have : k = D.size := by omega
        subst this
        have hI := HI.out
        rw [nrun_end] at hI
        have hfin := numR_some 16 D n HNE.out hI
        clear hI HI
        by_cases hl : n < 4294967296
        · rw [if_neg (by omega)] at hfin
          have HF := Lib.hid hfin
          clear hfin
          go_wp2
          go_ret2
          exact ⟨by rw [HF.out]; rfl, rfl⟩
        · have : n = 4294967296 := by omega
          subst this
          rw [if_pos rfl] at hfin
          have HF := Lib.hid hfin
          clear hfin
          go_wp2
          go_ret2
          exact ⟨by rw [HF.out]; rfl, rfl⟩
end Go.Proofs.YtkdpndoollbggaaDoor.Num
