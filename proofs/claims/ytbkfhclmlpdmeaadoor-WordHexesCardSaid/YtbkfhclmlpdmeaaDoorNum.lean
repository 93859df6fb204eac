/- DERIVED. Contracts of package word's digit and Number. By an AI agent. -/
import Derived.Test.YtbkfhclmlpdmeaaDoorWalks
import Derived.WalkLawsBesides
import Derived.WalkSpells
import Derived.Lib.Strings
namespace Go.Proofs.YtbkfhclmlpdmeaaDoor.Num
open Go.ChangeShapes Go.WideShapes Go.ChangeAt Go.RowKit WMath Word
set_option linter.unusedVariables false
/-- What a byte counts as a digit; 16, if nothing. -/
def dvN (c : Nat) : Nat := if 48 ≤ c ∧ c ≤ 57 then c - 48 else if 97 ≤ c ∧ c ≤ 102 then c - 87 else if 65 ≤ c ∧ c ≤ 70 then c - 55 else 16
theorem dvN_le (c : Nat) : dvN c ≤ 16 := by unfold dvN; split <;> (try split) <;> (try split) <;> omega
theorem digitC (c : Nat) (hc : c < 256) (w : World) : Calls Tryd.prog 33 #[.int .u8 c] w fun e w' => e = .returned (.int .u64 (dvN c : Nat)) ∧ w = w' := by
  by_cases h1 : 48 ≤ c ∧ c ≤ 57
  · have hd : dvN c = c - 48 := by simp [dvN, h1]
    obtain ⟨a, b⟩ := h1
    have HD := Lib.hid hd; clear hd
    go_enter Tryd.func33, Tryd.ntmps33
    go_wp2
    go_ret
    exact ⟨by rw [HD.out]; go_num, rfl⟩
  by_cases h2 : 97 ≤ c ∧ c ≤ 102
  · have hd : dvN c = c - 87 := by simp [dvN, h1, h2]
    obtain ⟨a, b⟩ := h2
    have HD := Lib.hid hd; clear hd h1
    have n1 : ¬ c ≤ 57 := by omega
    go_enter Tryd.func33, Tryd.ntmps33
    go_wp2
    go_ret
    exact ⟨by rw [HD.out]; go_num, rfl⟩
  by_cases h3 : 65 ≤ c ∧ c ≤ 70
  · have hd : dvN c = c - 55 := by simp [dvN, h1, h2, h3]
    obtain ⟨a, b⟩ := h3
    have HD := Lib.hid hd; clear hd h1 h2
    have n1 : ¬ c ≤ 57 := by omega
    have n2 : ¬ 97 ≤ c := by omega
    go_enter Tryd.func33, Tryd.ntmps33
    go_wp2
    go_ret
    exact ⟨by rw [HD.out]; go_num, rfl⟩
  have hd : dvN c = 16 := by simp [dvN, h1, h2, h3]
  have HD := Lib.hid hd; clear hd
  have hr : c < 48 ∨ (57 < c ∧ c < 65) ∨ (70 < c ∧ c < 97) ∨ 102 < c := by omega
  clear h1 h2 h3
  rcases hr with r | ⟨r1, r2⟩ | ⟨r1, r2⟩ | r
  all_goals
    go_enter Tryd.func33, Tryd.ntmps33
    go_wp2
    go_ret
    exact ⟨by rw [HD.out]; rfl, rfl⟩
def nrun (base : Nat) : List UInt8 → Nat → Option Nat
  | [], n => some n
  | c :: l, n => if dvN c.toNat < base then nrun base l (min (n * base + dvN c.toNat) 4294967296) else none
/-- The number that digits are, or why none: the number and the error. -/
def numR (base : Nat) (L : List UInt8) : Nat × Nat :=
  if L = [] then (0, 4) else match nrun base L 0 with
    | none => (0, 4)
    | some n => if n = 4294967296 then (0, 2) else (n, 0)
def resN (r : Nat × Nat) : Value := .tuple #[.int .u32 (r.1 : Nat), .int .i64 (r.2 : Nat)]
end Go.Proofs.YtbkfhclmlpdmeaaDoor.Num
