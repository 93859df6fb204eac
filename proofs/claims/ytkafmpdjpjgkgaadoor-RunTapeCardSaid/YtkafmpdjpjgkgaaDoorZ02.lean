/- DERIVED. Math, Word, Walks, Shift, Shift2, CoShP, Ref, Adds in one text. By an AI agent. -/
import Derived.Laws.BitsLemmas
import Derived.Laws.Bits64b
import Derived.Test.YtkafmpdjpjgkgaaDoorRows
import Derived.WalkKit
import Derived.RegionTactic
import Derived.ProofKit
import Derived.Deep.QuietTactic
import Derived.BigQuiet
import Derived.Outline
import Derived.Lib.Hide
import Derived.OpenShut
import Derived.OwnWalk
import Derived.WalkSmall
import Derived.Laws.AppendOwn
/- DERIVED. Plain facts on words of 32 bits (of no program): the model's bit operations at two words are those of 'BitVec 32'. By an AI agent. -/
namespace Go.Proofs.YtkafmpdjpjgkgaaDoor.WMath
open Go

theorem ofInt_toNat (x : BitVec 32) : BitVec.ofInt 32 (x.toNat : Int) = x := by
  rw [BitVec.ofInt_natCast, BitVec.ofNat_toNat]; simp
theorem wrapU32 (x : BitVec 32) : IntKind.u32.wrap (x.toNat : Int) = (x.toNat : Int) := by
  rw [IntKind.wrap_u32]; have := x.isLt; omega
theorem b_and (x y : BitVec 32) : bits .and .u32 (x.toNat : Int) (y.toNat : Int) = ((x &&& y).toNat : Int) := by
  show IntKind.u32.wrap ((BitVec.ofInt 32 (x.toNat : Int) &&& BitVec.ofInt 32 (y.toNat : Int)).toNat : Int) = _
  rw [ofInt_toNat, ofInt_toNat, wrapU32]
theorem b_or (x y : BitVec 32) : bits .or .u32 (x.toNat : Int) (y.toNat : Int) = ((x ||| y).toNat : Int) := by
  show IntKind.u32.wrap ((BitVec.ofInt 32 (x.toNat : Int) ||| BitVec.ofInt 32 (y.toNat : Int)).toNat : Int) = _
  rw [ofInt_toNat, ofInt_toNat, wrapU32]
theorem b_xor (x y : BitVec 32) : bits .xor .u32 (x.toNat : Int) (y.toNat : Int) = ((x ^^^ y).toNat : Int) := by
  show IntKind.u32.wrap ((BitVec.ofInt 32 (x.toNat : Int) ^^^ BitVec.ofInt 32 (y.toNat : Int)).toNat : Int) = _
  rw [ofInt_toNat, ofInt_toNat, wrapU32]
theorem b_andNot (x y : BitVec 32) : bits .andNot .u32 (x.toNat : Int) (y.toNat : Int) = ((x &&& ~~~y).toNat : Int) := by
  show IntKind.u32.wrap ((BitVec.ofInt 32 (x.toNat : Int) &&& ~~~BitVec.ofInt 32 (y.toNat : Int)).toNat : Int) = _
  rw [ofInt_toNat, ofInt_toNat, wrapU32]

theorem eq_u (x y : BitVec 32) : (((x.toNat : Int)) == (y.toNat : Int)) = (x == y) := by
  rw [Bool.eq_iff_iff, beq_iff_eq, beq_iff_eq]; exact ⟨fun h => BitVec.eq_of_toNat_eq (by omega), fun h => by rw [h]⟩
theorem top (x : BitVec 32) : (((x.toNat : Int) / 2147483648) == 1) = x.msb := by
  rw [BitVec.msb_eq_decide, Bool.eq_iff_iff]; have := x.isLt; simp; omega
def cin (c : Bool) : BitVec 32 := if c then 1 else 0
def sum (a b : BitVec 32) (c : Bool) : BitVec 32 := a + b + cin c
def carry (a b : BitVec 32) (c : Bool) : Bool := decide (4294967296 ≤ a.toNat + b.toNat + (cin c).toNat)
def over (a b : BitVec 32) (c : Bool) : Bool := (a.msb ^^ (sum a b c).msb) && (b.msb ^^ (sum a b c).msb)
theorem cin_le (c : Bool) : (cin c).toNat ≤ 1 := by cases c <;> decide
theorem sum_int (a b : BitVec 32) (c : Bool) : ((a.toNat : Int) + b.toNat + (cin c).toNat) % 4294967296 = ((sum a b c).toNat : Int) := by
  unfold sum; rw [BitVec.toNat_add, BitVec.toNat_add]; omega
theorem carry_int (a b : BitVec 32) (c : Bool) : ((((a.toNat : Int) + b.toNat + (cin c).toNat) / 4294967296) == 1) = carry a b c := by
  unfold carry; rw [Bool.eq_iff_iff, beq_iff_eq, decide_eq_true_iff]; have := a.isLt; have := b.isLt; have := cin_le c; omega
end Go.Proofs.YtkafmpdjpjgkgaaDoor.WMath
/- DERIVED. Contracts of package word's functions over words of 32 bits: each returns what is said here and leaves the world as it is. By an AI agent. -/
namespace Go.Proofs.YtkafmpdjpjgkgaaDoor.Word
open Go.ChangeShapes Go.WideShapes Go.ChangeAt Go.RowKit WMath
abbrev u (x : BitVec 32) : Value := .int .u32 (x.toNat : Int)
theorem bd (x : BitVec 32) : (x.toNat : Int) < 4294967296 := by have := x.isLt; omega

theorem one (c : Bool) (w : World) : Calls Tryd.prog 97 #[.bool c] w fun e w' => e = .returned (.int .u32 ((cin c).toNat : Int)) ∧ w = w' := by
  cases c
  all_goals
    go_enter Tryd.func97, Tryd.ntmps97
    go_wp2
    go_ret
    exact ⟨rfl, rfl⟩

theorem add32 (a b : BitVec 32) (c : Int) (h0 : 0 ≤ c) (h1 : c ≤ 1) (w : World) :
    Calls Tryd.prog 96 #[u a, u b, .int .u32 c] w fun e w' => e = .returned (.tuple #[.int .u32 (((a.toNat : Int) + b.toNat + c) % 4294967296), .int .u32 (((a.toNat : Int) + b.toNat + c) / 4294967296)]) ∧ w = w' := by
  have h2 := bd a; have h3 := bd b
  go_enter Tryd.func96, Tryd.ntmps96
  go_wp2
  go_ret2
  exact ⟨rfl, rfl⟩

theorem highest (a : BitVec 32) (w : World) : Calls Tryd.prog 95 #[u a] w fun e w' => e = .returned (.bool a.msb) ∧ w = w' := by
  have h2 := bd a
  go_enter Tryd.func95, Tryd.ntmps95
  go_wp2
  go_ret
  refine ⟨?_, rfl⟩
  show Ending.returned (.bool ((a.toNat : Int) / 2147483648 == 1)) = _
  rw [top]

theorem add (a b : BitVec 32) (c : Bool) (w : World) :
    Calls Tryd.prog 90 #[u a, u b, .bool c] w fun e w' => e = .returned (.tuple #[u (sum a b c), .bool (carry a b c), .bool (over a b c)]) ∧ w = w' := by
  have h2 := bd a; have h3 := bd b; have h4 := bd (sum a b c)
  have k0 : 0 ≤ ((cin c).toNat : Int) := by omega
  have k1 : ((cin c).toNat : Int) ≤ 1 := by have := cin_le c; omega
  go_enter Tryd.func90, Tryd.ntmps90
  go_wp2_with fail
  refine (one c _).mono ?_; rintro e w' ⟨rfl, rfl⟩
  go_wp2_with fail
  refine (add32 a b _ k0 k1 _).mono ?_; rintro e w' ⟨rfl, rfl⟩
  rw [sum_int]
  go_wp2_with fail
  rw [b_xor, b_xor, b_and]
  refine (highest _ _).mono ?_; rintro e w' ⟨rfl, rfl⟩
  go_wp2_with fail
  rw [carry_int]
  go_ret3
  exact ⟨rfl, rfl⟩
end Go.Proofs.YtkafmpdjpjgkgaaDoor.Word
/- DERIVED. The walks of the laws on sums and selections: each returns true and writes nothing that was there. By an AI agent. -/
namespace Go.Proofs.YtkafmpdjpjgkgaaDoor
open Go.ChangeShapes Go.WideShapes Go.ChangeAt Go.RowKit WMath Word
theorem b_not (x : BitVec 32) : bits .xor .u32 4294967295 (x.toNat : Int) = ((~~~x).toNat : Int) := by
  have h := b_xor 4294967295#32 x
  rw [show ((4294967295#32).toNat : Int) = 4294967295 from rfl] at h
  rw [h]
  congr 2
theorem un_not (x : BitVec 32) : Op.unary .xor (.int .u32 (x.toNat : Int)) = pure (Value.int .u32 ((~~~x).toNat : Int)) := by
  show pure (Value.int .u32 (bits .xor .u32 4294967295 (x.toNat : Int))) = _
  rw [b_not]
theorem not_sub (m : BitVec 32) : (4294967295 : Int) - (m.toNat : Int) = ((~~~m).toNat : Int) := by
  rw [BitVec.toNat_not]; have := m.isLt; omega
end Go.Proofs.YtkafmpdjpjgkgaaDoor
/- DERIVED. Contracts of package word's shifts and turns. By an AI agent. -/
namespace Go.Proofs.YtkafmpdjpjgkgaaDoor.Word
open Go.ChangeShapes Go.WideShapes Go.ChangeAt Go.RowKit WMath
set_option linter.unusedVariables false

theorem and31 (k : Int) (s : Nat) (hs : s < 32) (hk : k = s ∨ k = (s : Int) - 32) : bits BinOp.and IntKind.u64 (IntKind.u64.wrap k) 31 = (s : Int) := by
  have e : ∃ m : Nat, IntKind.u64.wrap k = (m : Int) ∧ m < 18446744073709551616 ∧ m % 32 = s := by
    rw [IntKind.wrap_u64]
    refine ⟨(k % 18446744073709551616).toNat, by omega, by omega, ?_⟩
    rcases hk with rfl | rfl <;> omega
  obtain ⟨m, hm, h1, h2⟩ := e
  rw [hm, show (31 : Int) = ((31 : Nat) : Int) from rfl, bits_and_u64_nat m 31 h1 (by omega), ← h2]
  congr 1
  exact Nat.and_two_pow_sub_one_eq_mod m 5
theorem shl_int (a : BitVec 32) (s : Nat) : (a.toNat : Int) * 2 ^ s % 4294967296 = ((a <<< s).toNat : Int) := by
  rw [BitVec.toNat_shiftLeft, Nat.shiftLeft_eq, Int.natCast_emod, Int.natCast_mul, Int.natCast_pow]; rfl
theorem shr_int (a : BitVec 32) (s : Nat) : (a.toNat : Int) / 2 ^ s = ((a >>> s).toNat : Int) := by
  rw [BitVec.toNat_ushiftRight, Nat.shiftRight_eq_div_pow, Int.natCast_ediv, Int.natCast_pow]; rfl
theorem rotl_or (a : BitVec 32) (s : Nat) (hs : s < 32) : (a <<< s) ||| (a >>> (32 - s)) = a.rotateLeft s := by
  rw [BitVec.rotateLeft_def, Nat.mod_eq_of_lt hs]
theorem rotl (a : BitVec 32) (k : Int) (s : Nat) (hs : s < 32) (hk : k = s ∨ k = (s : Int) - 32) (w : World) :
    Calls Tryd.prog 94 #[u a, .int .i64 k] w fun e w' => e = .returned (u (a.rotateLeft s)) ∧ w = w' := by
  have h2 := bd a
  have hb := and31 k s hs hk
  clear hk
  go_enter Tryd.func94, Tryd.ntmps94
  go_wp2
  go_ret
  refine ⟨?_, rfl⟩
  show Ending.returned (.int .u32 (bits BinOp.or IntKind.u32 ((a.toNat : Int) * 2 ^ s % 4294967296) ((a.toNat : Int) / 2 ^ (32 - s)))) = _
  rw [shl_int, shr_int, b_or, rotl_or a s hs]
theorem bit1 (m : Nat) (hm : m < 18446744073709551616) : (bits BinOp.and IntKind.u64 (m : Int) 1 == 1) = decide (m % 2 = 1) := by
  rw [show (1 : Int) = ((1 : Nat) : Int) from rfl, bits_and_u64_nat m 1 hm (by omega), Nat.and_one_is_mod, Bool.eq_iff_iff]
  simp; omega
theorem left (a : BitVec 32) (n : Nat) (hn : n < 4294967296) (w : World) :
    Calls Tryd.prog 91 #[u a, .int .u32 n] w fun e w' => e = .returned (.tuple #[u (a <<< n), .bool (decide (a.toNat * 2 ^ n / 4294967296 % 2 = 1))]) ∧ w = w' := by
  have h2 := bd a
  go_enter Tryd.func91, Tryd.ntmps91
  go_wp2
  go_ret2
  refine ⟨?_, rfl⟩
  have e1 : IntKind.u64.wrap ((a.toNat : Int) * 2 ^ min n 64) = ((a.toNat * 2 ^ min n 64 % 18446744073709551616 : Nat) : Int) := by rw [IntKind.wrap_u64, Int.natCast_emod, Int.natCast_mul, Int.natCast_pow]; rfl
  show Ending.returned (.tuple #[.int .u32 (IntKind.u64.wrap ((a.toNat : Int) * 2 ^ min n 64) % 4294967296), .bool (bits BinOp.and IntKind.u64 (IntKind.u64.wrap ((a.toNat : Int) * 2 ^ min n 64) / 4294967296) 1 == 1)]) = _
  rw [e1, show ((4294967296 : Int)) = ((4294967296 : Nat) : Int) from rfl, ← Int.natCast_ediv, ← Int.natCast_emod, bit1 _ (by omega)]
  have e2 : a.toNat * 2 ^ min n 64 % 18446744073709551616 % 4294967296 = (a <<< n).toNat := by
    rw [BitVec.toNat_shiftLeft, Nat.shiftLeft_eq, Nat.mod_mod_of_dvd _ (by decide : 4294967296 ∣ 18446744073709551616)]
    rcases Nat.le_total n 64 with h | h
    · rw [Nat.min_eq_left h]
    · rw [Nat.min_eq_right h, show n = 64 + (n - 64) by omega, Nat.pow_add]
      rw [show (2 : Nat) ^ 64 = 4294967296 * 4294967296 by decide]
      rw [show a.toNat * (4294967296 * 4294967296 * 2 ^ (n - 64)) = 2 ^ 32 * (a.toNat * 4294967296 * 2 ^ (n - 64)) by rw [show (2 : Nat) ^ 32 = 4294967296 by decide]; ac_rfl, Nat.mul_mod_right]
      omega
  have e3 : a.toNat * 2 ^ min n 64 % 18446744073709551616 / 4294967296 % 2 = a.toNat * 2 ^ n / 4294967296 % 2 := by
    rcases Nat.le_total n 64 with h | h
    · rw [Nat.min_eq_left h]
      generalize a.toNat * 2 ^ n = m
      omega
    · rw [Nat.min_eq_right h, show n = 64 + (n - 64) by omega, Nat.pow_add]
      rw [show (2 : Nat) ^ 64 = 18446744073709551616 by decide]
      rw [show a.toNat * (18446744073709551616 * 2 ^ (n - 64)) = 4294967296 * (2 * (2147483648 * (a.toNat * 2 ^ (n - 64)))) by rw [show 18446744073709551616 = 4294967296 * (2 * 2147483648) by decide]; ac_rfl]
      rw [Nat.mul_div_cancel_left _ (by decide), Nat.mul_mod_right]
      omega
  rw [e2, e3]
theorem right (a : BitVec 32) (n : Nat) (hn : n < 4294967296) (w : World) :
    Calls Tryd.prog 92 #[u a, .int .u32 n] w fun e w' => e = .returned (.tuple #[u (a >>> n), .bool (decide (a.toNat * 2 / 2 ^ n % 2 = 1))]) ∧ w = w' := by
  have h2 := bd a
  go_enter Tryd.func92, Tryd.ntmps92
  go_wp2
  go_ret2
  refine ⟨?_, rfl⟩
  show Ending.returned (.tuple #[.int .u32 ((a.toNat : Int) * 2 / 2 ^ min n 64 / 2 % 4294967296), .bool (bits BinOp.and IntKind.u64 ((a.toNat : Int) * 2 / 2 ^ min n 64) 1 == 1)]) = _
  have e1 : (a.toNat : Int) * 2 / 2 ^ min n 64 = ((a.toNat * 2 / 2 ^ min n 64 : Nat) : Int) := by rw [Int.natCast_ediv, Int.natCast_mul, Int.natCast_pow]; rfl
  have e0 : a.toNat * 2 / 2 ^ min n 64 = a.toNat * 2 / 2 ^ n := by
    rcases Nat.le_total n 64 with h | h
    · rw [Nat.min_eq_left h]
    · rw [Nat.min_eq_right h, Nat.div_eq_of_lt (by omega), Nat.div_eq_of_lt (Nat.lt_of_lt_of_le (by omega : a.toNat * 2 < 2 ^ 64) (Nat.pow_le_pow_right (by omega) h))]
  have e4 : a.toNat * 2 / 2 ^ n ≤ a.toNat * 2 := Nat.div_le_self _ _
  rw [e1, e0, bit1 _ (by omega)]
  have e2 : ((a.toNat * 2 / 2 ^ n : Nat) : Int) / 2 % 4294967296 = ((a >>> n).toNat : Int) := by
    rw [BitVec.toNat_ushiftRight, Nat.shiftRight_eq_div_pow]
    have e5 : a.toNat * 2 / 2 ^ n / 2 = a.toNat / 2 ^ n := by rw [Nat.div_div_eq_div_mul, Nat.mul_comm (2 ^ n) 2, Nat.mul_comm a.toNat 2, Nat.mul_div_mul_left _ _ (by omega)]
    have e6 : a.toNat / 2 ^ n ≤ a.toNat := Nat.div_le_self _ _
    generalize a.toNat * 2 / 2 ^ n = m at *
    omega
  rw [e2]
theorem bit1_i64 (m : Int) : (bits BinOp.and IntKind.i64 m 1 == 1) = decide (m % 2 = 1) := by
  have e : bits BinOp.and IntKind.i64 m 1 = m % 2 := by
    show IntKind.i64.wrap ((BitVec.ofInt 64 m &&& BitVec.ofInt 64 1).toNat : Int) = _
    have h1 : (BitVec.ofInt 64 m &&& BitVec.ofInt 64 1).toNat = (m % 2).toNat := by
      rw [BitVec.toNat_and, show (BitVec.ofInt 64 1).toNat = 1 from rfl, Nat.and_one_is_mod, BitVec.toNat_ofInt]
      omega
    rw [h1, IntKind.wrap_i64]
    omega
  rw [e, Bool.eq_iff_iff]; simp
theorem toNat_int (x : BitVec 32) : (x.toNat : Int) = x.toInt % 4294967296 := by
  have h := congrArg BitVec.toNat (BitVec.ofInt_toInt (x := x))
  rw [BitVec.toNat_ofInt] at h
  omega
theorem rightS (a : BitVec 32) (n : Nat) (hn : n < 4294967296) (w : World) :
    Calls Tryd.prog 93 #[u a, .int .u32 n] w fun e w' => e = .returned (.tuple #[u (a.sshiftRight n), .bool (decide (a.toInt * 2 / 2 ^ n % 2 = 1))]) ∧ w = w' := by
  have h2 := bd a
  go_enter Tryd.func93, Tryd.ntmps93
  go_wp2
  go_ret2
  refine ⟨?_, rfl⟩
  show Ending.returned (.tuple #[.int .u32 (wrap64 (wrap64 (wrap32 (a.toNat : Int)) * 2) / 2 ^ min n 64 / 2 % 4294967296), .bool (bits BinOp.and IntKind.i64 (wrap64 (wrap64 (wrap32 (a.toNat : Int)) * 2) / 2 ^ min n 64) 1 == 1)]) = _
  have ht := toNat_int a
  have hlo := BitVec.le_toInt a
  have hhi := BitVec.toInt_lt (x := a)
  have e1 : wrap64 (wrap64 (wrap32 (a.toNat : Int)) * 2) = a.toInt * 2 := by
    unfold wrap64 wrap32
    omega
  have e0 : a.toInt * 2 / 2 ^ min n 64 = a.toInt * 2 / 2 ^ n := by
    rcases Nat.le_total n 64 with h | h
    · rw [Nat.min_eq_left h]
    · rw [Nat.min_eq_right h]
      have hp : (18446744073709551616 : Int) ≤ 2 ^ n := by
        have := Int.ofNat_le.2 (Nat.pow_le_pow_right (show 0 < 2 by decide) h)
        rw [Int.natCast_pow, Int.natCast_pow] at this
        exact this
      by_cases h0 : a.toInt < 0
      · rw [Int.ediv_eq_neg_one_of_neg_of_le (by omega) (by omega), Int.ediv_eq_neg_one_of_neg_of_le (by omega) (by omega)]
      · rw [Int.ediv_eq_zero_of_lt (by omega) (by omega), Int.ediv_eq_zero_of_lt (by omega) (by omega)]
  rw [e1, e0, bit1_i64]
  have e2 : a.toInt * 2 / 2 ^ n / 2 % 4294967296 = ((a.sshiftRight n).toNat : Int) := by
    rw [toNat_int, BitVec.toInt_sshiftRight, Int.shiftRight_eq_div_pow]
    have e5 : a.toInt * 2 / 2 ^ n / 2 = a.toInt / 2 ^ n := by
      have hp : (0 : Int) < 2 ^ n := Int.pow_pos (by omega)
      rw [Int.ediv_ediv_of_nonneg (by omega), Int.mul_ediv_mul_of_pos_left _ _ (by omega)]
    rw [e5, Int.natCast_pow]
    rfl
  rw [e2]
end Go.Proofs.YtkafmpdjpjgkgaaDoor.Word
/- DERIVED. The contract of package word's Shift; the law that a word shifted twice is shifted by both. By an AI agent. -/
namespace Go.Proofs.YtkafmpdjpjgkgaaDoor.Word
open Go.ChangeShapes Go.WideShapes Go.ChangeAt Go.RowKit WMath
set_option linter.unusedVariables false
def shV (k : Int) (a : BitVec 32) (n : Nat) : BitVec 32 :=
  if k < 0 ∨ 3 < k then 0 else if n = 0 then a else if k = 0 then a <<< n else if k = 1 then a >>> n else if k = 2 then a.sshiftRight n else a.rotateLeft ((32 - n % 32) % 32)
def shC (k : Int) (a : BitVec 32) (n : Nat) (c : Bool) : Bool :=
  if k < 0 ∨ 3 < k then false else if n = 0 then c else if k = 0 then decide (a.toNat * 2 ^ n / 4294967296 % 2 = 1) else if k = 1 then decide (a.toNat * 2 / 2 ^ n % 2 = 1)
  else if k = 2 then decide (a.toInt * 2 / 2 ^ n % 2 = 1) else (a.rotateLeft ((32 - n % 32) % 32)).msb
set_option maxHeartbeats 400000 in
theorem shift (k : Int) (a : BitVec 32) (n : Nat) (hn : n < 4294967296) (c : Bool) (w : World) :
    Calls Tryd.prog 89 #[.int .i64 k, u a, .int .u32 n, .bool c] w fun e w' => e = .returned (.tuple #[u (shV k a n), .bool (shC k a n c)]) ∧ w = w' := by
  have h2 := bd a
  by_cases k0 : k < 0
  · go_enter Tryd.func89, Tryd.ntmps89
    go_wp2
    go_ret2
    exact ⟨by simp [shV, shC, k0], rfl⟩
  have k0' : decide (k < 0) = false := by simpa using k0
  by_cases k3 : 3 < k
  · go_enter Tryd.func89, Tryd.ntmps89
    go_wp2
    go_ret2
    exact ⟨by simp [shV, shC, k3], rfl⟩
  have k3' : decide (3 < k) = false := by simpa using k3
  have kk : ¬ (k < 0 ∨ 3 < k) := by omega
  by_cases n0 : n = 0
  · subst n0
    go_enter Tryd.func89, Tryd.ntmps89
    go_wp2
    go_ret2
    exact ⟨by simp [shV, shC, kk], rfl⟩
  have n0' : ((n : Int) == 0) = false := by simpa using n0
  have hsh : k = 0 ∨ k = 1 ∨ k = 2 ∨ k = 3 := by omega
  rcases hsh with rfl | rfl | rfl | rfl
  · go_enter Tryd.func89, Tryd.ntmps89
    go_wp2_with (go_at_call 91; refine (left a n hn _).mono ?_; rintro e w' ⟨rfl, rfl⟩)
    go_ret2
    exact ⟨by simp [shV, shC, n0], rfl⟩
  · go_enter Tryd.func89, Tryd.ntmps89
    go_wp2_with (go_at_call 92; refine (right a n hn _).mono ?_; rintro e w' ⟨rfl, rfl⟩)
    go_ret2
    exact ⟨by simp [shV, shC, n0], rfl⟩
  · go_enter Tryd.func89, Tryd.ntmps89
    go_wp2_with (go_at_call 93; refine (rightS a n hn _).mono ?_; rintro e w' ⟨rfl, rfl⟩)
    go_ret2
    exact ⟨by simp [shV, shC, n0], rfl⟩
  · have hs : (32 - n % 32) % 32 < 32 := by omega
    go_enter Tryd.func89, Tryd.ntmps89
    go_wp2_with fail
    refine (rotl a _ ((32 - n % 32) % 32) hs (by omega) _).mono ?_; rintro e w' ⟨rfl, rfl⟩
    go_wp2_with (go_at_call 95; refine (highest _ _).mono ?_; rintro e w' ⟨rfl, rfl⟩)
    go_ret2
    refine ⟨?_, rfl⟩
    simp [shV, shC, n0]
end Go.Proofs.YtkafmpdjpjgkgaaDoor.Word
/- DERIVED. A word shifted bit by bit: the reference's way, and that it comes to the program's. By an AI agent. -/
namespace Go.Proofs.YtkafmpdjpjgkgaaDoor.Co
open WMath Word
set_option linter.unusedVariables false
set_option linter.unusedSimpArgs false
/-- What the inner loop sets at bit j. -/
def nbi (k : Nat) (x : BitVec 32) (j : Nat) : Bool := if k = 0 then decide (0 < j) && x.getLsbD (j - 1) else decide (j < 31) && x.getLsbD (j + 1)
/-- All bits of the word moved by one. -/
def nb (k : Nat) (x : BitVec 32) (j : Nat) : Bool := if j = 31 ∧ k = 2 then x.getLsbD 31 else if j = 31 ∧ k = 3 then x.getLsbD 0 else nbi k x j
def cry (k : Nat) (x : BitVec 32) : Bool := if k = 0 then x.getLsbD 31 else x.getLsbD 0
theorem rot_get (a : BitVec 32) (n i : Nat) (hi : i < 32) : (a.rotateLeft n).getLsbD i = a.getLsbD ((i + 32 - n % 32) % 32) := by
  rw [BitVec.getLsbD_rotateLeft]
  by_cases h : i < n % 32
  · simp only [h, decide_true, cond_true]
    congr 1; omega
  · simp only [h, decide_false, cond_false, hi, decide_true, Bool.true_and]
    congr 1; omega
theorem rot_rot (a : BitVec 32) (x y z : Nat) (h : z % 32 = (x + y) % 32) : (a.rotateLeft x).rotateLeft y = a.rotateLeft z := by
  apply BitVec.eq_of_getLsbD_eq; intro i hi
  rw [rot_get _ _ _ hi, rot_get _ _ _ (by omega), rot_get _ _ _ hi]
  congr 1; omega
theorem shV_twice (k : Int) (a : BitVec 32) (x y : Nat) : shV k (shV k a x) y = shV k a (x + y) := by
  unfold shV
  by_cases kk : k < 0 ∨ 3 < k
  · simp [kk]
  simp only [kk, if_false]
  by_cases hx : x = 0
  · subst hx; simp
  by_cases hy : y = 0
  · subst hy; simp
  simp only [hx, hy, if_false, show ¬ (x + y = 0) by omega]
  by_cases h0 : k = 0
  · simp only [h0, if_true]; rw [BitVec.shiftLeft_add]
  by_cases h1 : k = 1
  · simp only [h1, if_true]; apply BitVec.eq_of_toNat_eq; simp [Nat.shiftRight_add]
  by_cases h2 : k = 2
  · subst h2; simp [BitVec.sshiftRight_add]
  simp only [h0, h1, h2, if_false]
  exact rot_rot _ _ _ _ (by omega)
theorem sh_one (k : Nat) (hk : k < 4) (x : BitVec 32) (j : Nat) (hj : j < 32) : (shV k x 1).getLsbD j = nb k x j := by
  have hr : k = 0 ∨ k = 1 ∨ k = 2 ∨ k = 3 := by omega
  rcases hr with rfl | rfl | rfl | rfl
  · simp only [shV, nb, nbi]
    simp [BitVec.getLsbD_shiftLeft]
    by_cases h : j = 0
    · subst h; simp
    · simp [h, hj]; intro; omega
  · simp only [shV, nb, nbi]
    simp [BitVec.getLsbD_ushiftRight]
    by_cases h : j = 31
    · subst h; simp
    · rw [Nat.add_comm]; simp [show j < 31 by omega]
  · simp only [shV, nb, nbi]
    simp [BitVec.getLsbD_sshiftRight]
    by_cases h : j = 31
    · subst h; simp [BitVec.msb_eq_getLsbD_last]
    · rw [Nat.add_comm]; simp [show j < 31 by omega, show j + 1 < 32 by omega, h, show ¬ 32 ≤ j by omega]
  · show ((x.rotateLeft 31).getLsbD j) = _
    rw [rot_get _ _ _ hj]
    simp only [nb, nbi]
    by_cases h : j = 31
    · subst h; simp
    · rw [show (j + 32 - 31 % 32) % 32 = j + 1 by omega]; simp [h, show j < 31 by omega]
theorem sh_succ (k : Nat) (hk : k < 4) (a : BitVec 32) (i j : Nat) (hj : j < 32) : (shV k a (i + 1)).getLsbD j = nb k (shV k a i) j := by
  rw [← shV_twice, sh_one k hk _ _ hj]
theorem bit0 (x : BitVec 32) : x.getLsbD 0 = decide (x.toNat % 2 = 1) := by
  rw [← BitVec.testBit_toNat, Nat.testBit_eq_decide_div_mod_eq]; simp
theorem shV_zero (k : Nat) (hk : k < 4) (a : BitVec 32) : shV k a 0 = a := by
  unfold shV; rw [if_neg (by omega), if_pos rfl]
theorem shc_succ (k : Nat) (hk : k < 4) (a : BitVec 32) (i : Nat) (c : Bool) : shC k a (i + 1) c = cry k (shV k a i) := by
  have hr : k = 0 ∨ k = 1 ∨ k = 2 ∨ k = 3 := by omega
  rcases hr with rfl | rfl | rfl | rfl
  · have e : shV (0 : Nat) a i = a <<< i := by
      unfold shV; by_cases h : i = 0
      · subst h; simp
      · simp [h]
    rw [e]
    show decide (a.toNat * 2 ^ (i + 1) / 4294967296 % 2 = 1) = (a <<< i).getLsbD 31
    have := Nat.testBit_shiftLeft (x := a.toNat) (i := i + 1) (j := 32)
    rw [Nat.testBit_eq_decide_div_mod_eq, Nat.shiftLeft_eq] at this
    rw [show (4294967296 : Nat) = 2 ^ 32 from rfl, this, BitVec.getLsbD_shiftLeft, ← BitVec.testBit_toNat]
    by_cases h : i ≤ 31
    · simp [show i + 1 ≤ 32 by omega, show ¬ 31 < i by omega, show 32 - (i + 1) = 31 - i by omega]
    · simp [show ¬ (i + 1 ≤ 32) by omega, show 31 < i by omega]
  · have e : shV (1 : Nat) a i = a >>> i := by
      unfold shV; by_cases h : i = 0
      · subst h; simp
      · simp [h]
    rw [e]
    show decide (a.toNat * 2 / 2 ^ (i + 1) % 2 = 1) = (a >>> i).getLsbD 0
    rw [BitVec.getLsbD_ushiftRight, ← BitVec.testBit_toNat, Nat.testBit_eq_decide_div_mod_eq, Nat.add_zero, Nat.pow_succ, Nat.mul_div_mul_right _ _ (by decide)]
    rfl
  · have e : shV (2 : Nat) a i = a.sshiftRight i := by
      unfold shV; by_cases h : i = 0
      · subst h; simp
      · simp [h]
    rw [e]
    show decide (a.toInt * 2 / 2 ^ (i + 1) % 2 = 1) = (a.sshiftRight i).getLsbD 0
    rw [bit0]
    have h1 := toNat_int (a.sshiftRight i)
    have h2 : (a.sshiftRight i).toInt = a.toInt / 2 ^ i := by rw [BitVec.toInt_sshiftRight, Int.shiftRight_eq_div_pow]; rfl
    have h3 : a.toInt * 2 / 2 ^ (i + 1) = a.toInt / 2 ^ i := by
      rw [Int.pow_succ, Int.mul_ediv_mul_of_pos_left _ _ (by decide)]
    rw [h3, ← h2]
    generalize (a.sshiftRight i).toInt = z at *
    generalize (a.sshiftRight i).toNat = q at *
    rw [decide_eq_decide]; omega
  · show (a.rotateLeft ((32 - (i + 1) % 32) % 32)).msb = (shV (3 : Nat) a i).getLsbD 0
    have h := sh_succ 3 (by decide) a i 31 (by decide)
    have e : shV (3 : Nat) a (i + 1) = a.rotateLeft ((32 - (i + 1) % 32) % 32) := by unfold shV; simp
    rw [e] at h
    rw [BitVec.msb_eq_getLsbD_last]
    rw [show (32 - 1 : Nat) = 31 from rfl, h]
    simp [nb]
theorem sh_far (k : Nat) (hk : k < 3) (a : BitVec 32) (n : Nat) (hn : 32 ≤ n) : shV k a n = shV k a 32 := by
  have hr : k = 0 ∨ k = 1 ∨ k = 2 := by omega
  rcases hr with rfl | rfl | rfl
  · have e : ∀ m : Nat, 32 ≤ m → shV (0 : Nat) a m = 0#32 := fun m hm => by
      unfold shV; simp only [show ¬ m = 0 by omega, if_false]; simp
      exact BitVec.shiftLeft_eq_zero hm
    rw [e n hn, e 32 (by decide)]
  · have e : ∀ m : Nat, 32 ≤ m → shV (1 : Nat) a m = 0#32 := fun m hm => by
      unfold shV; simp only [show ¬ m = 0 by omega, if_false]; simp
      exact BitVec.ushiftRight_eq_zero hm
    rw [e n hn, e 32 (by decide)]
  · have e : ∀ m : Nat, 32 ≤ m → ∀ j, j < 32 → (shV (2 : Nat) a m).getLsbD j = a.msb := fun m hm j hj => by
      have e0 : shV (2 : Nat) a m = a.sshiftRight m := by unfold shV; simp [show ¬ m = 0 by omega]
      rw [e0, BitVec.getLsbD_sshiftRight]
      simp [show ¬ 32 ≤ j by omega]
      intro h; omega
    apply BitVec.eq_of_getLsbD_eq; intro j hj
    rw [e n hn j hj, e 32 (by decide) j hj]
/-- How far the reference goes. -/
def rby (k n : Nat) : Nat := if k = 3 ∧ 64 < n then 32 + n % 32 else n
theorem sh_rby (k : Nat) (hk : k < 4) (a : BitVec 32) (n : Nat) (c : Bool) : shV k a (min (rby k n) 70) = shV k a n ∧ shC k a (min (rby k n) 70) c = shC k a n c := by
  by_cases h3 : k = 3
  · subst h3
    by_cases hn : 64 < n
    · have e : min (rby 3 n) 70 = 32 + n % 32 := by unfold rby; rw [if_pos ⟨rfl, hn⟩]; omega
      rw [e]
      have e2 : (32 - (32 + n % 32) % 32) % 32 = (32 - n % 32) % 32 := by omega
      constructor
      · unfold shV; simp [show ¬ n = 0 by omega, show ¬ (32 + n % 32 = 0) by omega, e2]
      · unfold shC; simp [show ¬ n = 0 by omega, show ¬ (32 + n % 32 = 0) by omega, e2]
    · have e : min (rby 3 n) 70 = n := by unfold rby; rw [if_neg (by omega)]; omega
      rw [e]; exact ⟨rfl, rfl⟩
  · have e : rby k n = n := by unfold rby; rw [if_neg (by omega)]
    rw [e]
    by_cases hn : n ≤ 70
    · rw [Nat.min_eq_left hn]; exact ⟨rfl, rfl⟩
    · rw [Nat.min_eq_right (by omega)]
      refine ⟨by rw [sh_far k (by omega) a 70 (by decide), sh_far k (by omega) a n (by omega)], ?_⟩
      obtain ⟨m, rfl⟩ : ∃ m, n = m + 1 := ⟨n - 1, by omega⟩
      rw [shc_succ k hk, shc_succ k hk, sh_far k (by omega) a 69 (by decide), sh_far k (by omega) a m (by omega)]
end Go.Proofs.YtkafmpdjpjgkgaaDoor.Co
/- DERIVED. Contracts of the reference's Bits and Word. By an AI agent. -/
namespace Go.Proofs.YtkafmpdjpjgkgaaDoor.Ref
open Go.ChangeShapes Go.WideShapes Go.ChangeAt Go.RowKit WMath Word
set_option linter.unusedVariables false
/-- The first k bits of a word, the lowest first. -/
def bitsTo (a : BitVec 32) (k : Nat) : List Bool := (List.range k).map a.getLsbD
theorem bitsTo_snoc (a : BitVec 32) (k : Nat) : bitsTo a (k + 1) = bitsTo a k ++ [a.getLsbD k] := by
  unfold bitsTo; rw [List.range_succ, List.map_append]; rfl
theorem bit_of (a : BitVec 32) (k n : Nat) (hn : n = a.toNat / 2 ^ k) : ((n : Int) % 2 == 1) = a.getLsbD k := by
  rw [← BitVec.testBit_toNat, Nat.testBit_eq_decide_div_mod_eq, ← hn, Bool.eq_iff_iff]
  simp; omega
/-- The boolean cells of a list. -/
def bvals (l : List Bool) : List Value := l.map Value.bool
theorem infoB : (Tryd.prog.info? 4).map (fun i => (i.zero, i.size, i.bytes)) = some (some (.bool false), 1, 1) := by kernel_rfl
/-- One boolean is appended to a row of the call's own. -/
theorem app_bool {ops : Array Oper} {rest : List Oper} {o : Oper} {a : Act} {Q : Exit → Act → World → Prop} {W0 w : World} (hgd : o.guard = none) (s x : Operand)
    (ho : o.op = .call { callee := .builtin .append, args := #[s, x], argTypes := #[109, 109] })
    (v : Value) (k : Nat) (xs : List Bool) (hs : a.eval s = v) {base : Nat} (hown : w.ownsRow base 4 1 v k (bvals xs)) (hb : Below base W0 w) (hB : base ≤ W0.heap.size) (b : Bool)
    (hx : a.eval x = .slice (some ⟨w.heap.size, 0, none⟩) 1 1) (hk : k < 1000)
    (h : ∀ v' w', w'.ownsRow base 4 1 v' (k + 1) (bvals (xs ++ [b])) → Below base W0 w' → wpList Tryd.prog ops Q rest (a.put o.dst v') w') :
    wpList Tryd.prog ops Q (o :: rest) a (w.alloc (.cells #[.bool b] 4)) := by
  obtain ⟨i0, hi, hz0, hz1, hz2⟩ := info_parts infoB
  have hbs := hb.size
  refine wpList_append_own _ hgd s x 109 ho base 4 i0 (.bool false) 1 1 Tryd.underlying109 hi hz0 hz1 hz2 rfl (by decide) v k (bvals xs) hs (hown.alloc _) ⟨w.heap.size, 0, none⟩ 1 1 [.bool b] hx rfl ?_ ?_ (by unfold maxLen; omega) (by omega) (by simp; omega) ?_
  · intro j u hj
    match j, hj with
    | 0, hj =>
      simp at hj; subst hj
      show (w.alloc _).cell? ⟨w.heap.size, 0 + 0, none⟩ = _
      rw [World.cell?_alloc_at _ _ _ _ rfl]; rfl
    | j + 1, hj => simp at hj
  · intro u hu; simp at hu; subst hu; rfl
  · intro v' w' h1 h2 _
    refine h v' w' (by simpa [bvals] using h1) ((hb.alloc (by omega) _).grown h2 (by simp; omega) (fun k hk => (hown.lt k hk).1))
set_option maxHeartbeats 800000 in
theorem bitsC (a : BitVec 32) (w : World) :
    Calls Tryd.prog 79 #[u a] w fun e w' => ∃ g cap, e = .returned (.slice (some ⟨g, 0, none⟩) 32 cap) ∧ 32 ≤ cap ∧ cap ≤ maxLen ∧ w.heap.size ≤ g ∧ g < w'.heap.size ∧ (∀ j, j < 32 → w'.cell? ⟨g, j, none⟩ = some (.bool (a.getLsbD j))) ∧ Below w.heap.size w w' := by
  have h2 := bd a
  go_enter Tryd.func79, Tryd.ntmps79
  go_wp2
  go_loopw [0, 3, 4] (fun va v vi wr => ∃ (k n : Nat), k ≤ 32 ∧ vi = .int .i64 k ∧ va = .int .u32 n ∧ Hid (n = a.toNat / 2 ^ k) ∧ wr.ownsRow w.heap.size 4 1 v k (bvals (bitsTo a k)) ∧ Below w.heap.size w wr) (fun _ _ vi _ => 32 - (intOf vi).toNat)
  case atStart => exact ⟨0, a.toNat, by omega, rfl, rfl, Lib.hid (by simp), World.ownsRow_lit w #[] 0 (Nat.le_refl _) (by decide) rfl, (Below.refl _ _).alloc (Nat.le_refl _) _⟩
  case round =>
    obtain ⟨k, n, hk, rfl, rfl, HN, hown, hb⟩ := hrel
    have HB := Lib.hid hb
    have HO := Lib.hid hown
    clear hb hown h2
    have hn : n < 4294967296 := by have := HN.out; have := Nat.div_le_self a.toNat (2 ^ k); omega
    by_cases hlt : k < 32
    · go_wp2_with (at_builtin; refine app_bool rfl _ _ rfl _ k (bitsTo a k) rfl HO.out HB.out (Nat.le_refl _) ((n : Int) % 2 == 1) rfl (by omega) ?_; intro v' w' hown' hb')
      have hbit := bit_of a k n HN.out
      rw [hbit, ← bitsTo_snoc] at hown'
      go_roundw
      case rel => exact ⟨k + 1, n / 2, by omega, by go_num, rfl, Lib.hid (by rw [HN.out, Nat.pow_succ, Nat.div_div_eq_div_mul]), hown', hb'⟩
      case measure => simp [intOf]; omega
    · go_wp2
      have : k = 32 := by omega
      subst this
      have hown := HO.out
      go_ret
      rcases hown.2 with ⟨_, h0⟩ | ⟨g, cap, cur, rfl, hg, hgg, hcap, hmx, _, _⟩
      · omega
      · have hc := fun j (hj : j < 32) => World.ownsRow.cellAt hown j (by omega)
        have hg2 : g < wr.heap.size := by have := (hown.lt g rfl).2; exact this
        refine ⟨g, cap, rfl, hcap, hmx, hg, hg2, fun j hj => ?_, HB.out⟩
        rw [hc j hj]
        simp [bvals, bitsTo, hj]
theorem half_lt (x : BitVec 32) (m n : Nat) (hn : n = x.toNat / 2 ^ (m + 1)) : n < 2147483648 := by
  have h1 := x.isLt
  rw [Nat.pow_succ, Nat.mul_comm, ← Nat.div_div_eq_div_mul] at hn
  have h2 := Nat.div_le_self (x.toNat / 2) (2 ^ m)
  omega
theorem word_step (x : BitVec 32) (m n : Nat) (b : Bool) (hn : n = x.toNat / 2 ^ (m + 1)) (hb : x.getLsbD m = b) : n * 2 + b.toNat = x.toNat / 2 ^ m := by
  rw [Nat.pow_succ, ← Nat.div_div_eq_div_mul] at hn
  rw [← BitVec.testBit_toNat, Nat.testBit_eq_decide_div_mod_eq] at hb
  subst hb
  generalize x.toNat / 2 ^ m = q at *
  by_cases h : q % 2 = 1 <;> simp [h] <;> omega
set_option maxHeartbeats 800000 in
theorem wordC (x : BitVec 32) (g cap : Nat) (w : World) (hcap : 32 ≤ cap) (hc : ∀ j, j < 32 → w.cell? ⟨g, j, none⟩ = some (.bool (x.getLsbD j))) :
    Calls Tryd.prog 80 #[.slice (some ⟨g, 0, none⟩) 32 cap] w fun e w' => e = .returned (u x) ∧ w = w' := by
  have HC := Lib.hid hc
  clear hc
  go_enter Tryd.func80, Tryd.ntmps80
  go_wp2
  go_loop [3, 4] (fun va vi => ∃ (k n : Nat), k ≤ 32 ∧ vi = .int .i64 ((k : Int) - 1) ∧ va = .int .u32 n ∧ Hid (n = x.toNat / 2 ^ k)) (fun _ vi => (intOf vi + 1).toNat)
  case atStart => exact ⟨32, 0, by omega, rfl, rfl, Lib.hid (by have := x.isLt; rw [Nat.div_eq_of_lt (by omega)])⟩
  case round =>
    obtain ⟨k, n, hk, rfl, rfl, HN⟩ := hrel
    cases k with
    | zero =>
      go_wp2
      go_ret
      have h := HN.out
      rw [Nat.pow_zero, Nat.div_one] at h
      exact ⟨by rw [h]; rfl, rfl⟩
    | succ m =>
      have hcell := HC.out m (by omega)
      have hn : n < 2147483648 := half_lt x m n HN.out
      cases hbit : x.getLsbD m
      all_goals
        rw [hbit] at hcell
        have hst := word_step x m n _ HN.out hbit
        have HS := Lib.hid hst
        have HBT := Lib.hid hbit
        clear hst hbit
        go_wp2
        go_round
        case rel => exact ⟨m, _, by omega, by go_num, rfl, Lib.hid (by rw [← HS.out]; rfl)⟩
        case measure => simp [intOf]
end Go.Proofs.YtkafmpdjpjgkgaaDoor.Ref
/- DERIVED. The reference's Add; the walk of the law on sums. By an AI agent. -/
namespace Go.Proofs.YtkafmpdjpjgkgaaDoor.Ref
open Go.ChangeShapes Go.WideShapes Go.ChangeAt Go.RowKit WMath Word
set_option linter.unusedVariables false
theorem sum_bit (a b : BitVec 32) (c : Bool) (k : Nat) (hk : k < 32) : (sum a b c).getLsbD k = (a.getLsbD k ^^ (b.getLsbD k ^^ BitVec.carry k a b c)) := by
  rw [← BitVec.getLsbD_add_add_bool hk]
  congr 1
  unfold sum cin
  cases c <;> rfl
theorem carry_end (a b : BitVec 32) (c : Bool) : BitVec.carry 32 a b c = carry a b c := by
  unfold BitVec.carry carry cin
  have := a.isLt; have := b.isLt
  cases c <;> simp <;> omega
set_option maxHeartbeats 3200000 in
theorem raddC (a b : BitVec 32) (c : Bool) (w : World) : Calls Tryd.prog 63 #[u a, u b, .bool c] w fun e w' => e = .returned (.tuple #[u (sum a b c), .bool (carry a b c), .bool (over a b c)]) ∧ Below w.heap.size w w' := by
  go_enter Tryd.func63, Tryd.ntmps63
  go_wp2_with fail
  refine (bitsC a _).mono ?_; rintro e w2 ⟨g2, cap2, rfl, hcap2, hmx2, hg2, hs2, hc2, hb2⟩
  go_wp2_with fail
  refine (bitsC b _).mono ?_; rintro e w3 ⟨g3, cap3, rfl, hcap3, hmx3, hg3, hs3, hc3, hb3⟩
  have C2 : ∀ j, j < 32 → w3.cell? ⟨g2, j, none⟩ = some (.bool (a.getLsbD j)) := fun j hj => by rw [hb3.cell (p := ⟨_, _, _⟩) hs2]; exact hc2 j hj
  have B3 : Below w.heap.size w w3 := hb2.trans (hb3.mono hb2.size)
  have S2 : g2 < w3.heap.size := by have := hb3.size; omega
  have HC2 := Lib.hid C2; have HC3 := Lib.hid hc3; have HB3 := Lib.hid B3
  clear C2 hc2 hc3 hb2 hb3 B3 hs2 hg2 hg3
  go_wp2
  go_loopw [2, 11, 12] (fun vc v vi wr => ∃ (k : Nat), k ≤ 32 ∧ vi = .int .i64 k ∧ vc = .bool (BitVec.carry k a b c) ∧ wr.ownsRow w3.heap.size 4 1 v k (bvals (bitsTo (sum a b c) k)) ∧ Below w3.heap.size w3 wr) (fun _ _ vi _ => 32 - (intOf vi).toNat)
  case atStart => exact ⟨0, by omega, rfl, by simp, World.ownsRow_lit w3 #[] 0 (Nat.le_refl _) (by decide) rfl, (Below.refl _ _).alloc (Nat.le_refl _) _⟩
  case round =>
    obtain ⟨k, hk, rfl, rfl, hown, hb⟩ := hrel
    have HB := Lib.hid hb
    have HO := Lib.hid hown
    clear hb hown
    by_cases hlt : k < 32
    · have q2 : wr.cell? ⟨g2, k, none⟩ = some (.bool (a.getLsbD k)) := by rw [HB.out.cell (p := ⟨_, _, _⟩) S2]; exact HC2.out k hlt
      have q3 : wr.cell? ⟨g3, k, none⟩ = some (.bool (b.getLsbD k)) := by rw [HB.out.cell (p := ⟨_, _, _⟩) hs3]; exact HC3.out k hlt
      have hst := sum_bit a b c k hlt
      have hcs := BitVec.carry_succ k a b c
      have hsn := bitsTo_snoc (sum a b c) k
      rw [hst] at hsn
      clear hst
      generalize a.getLsbD k = ak at q2 hsn hcs
      generalize b.getLsbD k = bk at q3 hsn hcs
      generalize BitVec.carry k a b c = ck at hsn hcs ⊢
      cases ak <;> cases bk <;> cases ck
      all_goals
        have HSN := Lib.hid hsn
        have HCS := Lib.hid hcs
        clear hsn hcs
        go_wp2_with (at_builtin; refine app_bool rfl _ _ rfl _ k (bitsTo (sum a b c) k) rfl HO.out HB.out (Nat.le_refl _) _ rfl (by omega) ?_; intro v' w' hown' hb')
        go_roundw
        case rel => exact ⟨k + 1, by omega, by go_num, by rw [HCS.out]; rfl, by rw [HSN.out]; exact hown', hb'⟩
        case measure => simp [intOf]; omega
    · have : k = 32 := by omega
      subst this
      rw [carry_end]
      have hown := HO.out
      rcases hown.2 with ⟨_, h0⟩ | ⟨g, cap, cur, rfl, hg, hgg, hcap, hmx, _, _⟩
      · omega
      · have hc := fun j (hj : j < 32) => World.ownsRow.cellAt hown j (by omega)
        have hw := fun n : Nat => (wordC (sum a b c) g cap (wr.drewN n) hcap (fun j hj => by show wr.cell? _ = _; rw [hc j hj]; simp [bvals, bitsTo, hj])).mono (fun e w' (h : e = .returned (u (sum a b c)) ∧ wr.drewN n = w') => show e = .returned (u (sum a b c)) ∧ w' = wr.drewN n from ⟨h.1, h.2.symm⟩)
        have q2 : wr.cell? ⟨g2, 31, none⟩ = some (.bool (a.getLsbD 31)) := by rw [HB.out.cell (p := ⟨_, _, _⟩) S2]; exact HC2.out 31 (by decide)
        have q3 : wr.cell? ⟨g3, 31, none⟩ = some (.bool (b.getLsbD 31)) := by rw [HB.out.cell (p := ⟨_, _, _⟩) hs3]; exact HC3.out 31 (by decide)
        have q4 : wr.cell? ⟨g, 31, none⟩ = some (.bool ((sum a b c).getLsbD 31)) := by rw [hc 31 (by decide)]; rfl
        have hov : over a b c = ((a.getLsbD 31 == b.getLsbD 31) && (sum a b c).getLsbD 31 != a.getLsbD 31) := by
          show ((a.msb ^^ (sum a b c).msb) && (b.msb ^^ (sum a b c).msb)) = _
          simp only [BitVec.msb_eq_getLsbD_last]
          show ((a.getLsbD 31 ^^ (sum a b c).getLsbD 31) && (b.getLsbD 31 ^^ (sum a b c).getLsbD 31)) = _
          cases a.getLsbD 31 <;> cases b.getLsbD 31 <;> cases (sum a b c).getLsbD 31 <;> rfl
        generalize a.getLsbD 31 = xa at q2 hov
        generalize b.getLsbD 31 = xb at q3 hov
        generalize (sum a b c).getLsbD 31 = xs at q4 hov
        have HW := Lib.hid hw
        clear hw hown hc HO
        cases xa <;> cases xb <;> cases xs
        all_goals
          have HOV := Lib.hid hov
          clear hov
          go_wp2_with fail
          go_quiet ((go_at_call 80; exact Calls.quiet_of_same (HW.out _)))
          go_wp2_with fail
          go_ret3
          exact ⟨by rw [HOV.out]; rfl, below_drewN (HB3.out.trans (HB.out.mono HB3.out.size)) _⟩
end Go.Proofs.YtkafmpdjpjgkgaaDoor.Ref
namespace Go.Proofs.YtkafmpdjpjgkgaaDoor
open Go.ChangeShapes Go.WideShapes Go.ChangeAt Go.RowKit WMath Word Ref
set_option linter.unusedVariables false
end Go.Proofs.YtkafmpdjpjgkgaaDoor
