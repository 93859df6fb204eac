/- DERIVED. Contracts of package word's shifts and turns. By an AI agent. -/
import Derived.Test.YtkipfeljpngkeaaDoorWalks
namespace Go.Proofs.YtkipfeljpngkeaaDoor.Word
open Go.ChangeShapes Go.WideShapes Go.ChangeAt Go.RowKit WMath
set_option linter.unusedVariables false

theorem and31 (k : Int) (s : Nat) (hs : s < 32) (hk : k = s ∨ k = (s : Int) - 32) : bits BinOp.and IntKind.u64 (IntKind.u64.wrap k) 31 = (s : Int) := by
  have e : ∃ m : Nat, IntKind.u64.wrap k = (m : Int) ∧ m < 18446744073709551616 ∧ m % 32 = s := by
    rw [IntKind.wrap_u64]
    refine ⟨(k % 18446744073709551616).toNat, by omega, by omega, ?_⟩
    rcases hk with rfl | rfl <;> omega
  obtain ⟨m, hm, h1, h2⟩ := e
  rw [hm, show (31 : Int) = ((31 : Nat) : Int) from rfl, bits_and_u64_nat m 31 h1 (by omega), ← h2]
  congr 1
  exact Nat.and_two_pow_sub_one_eq_mod m 5
theorem shl_int (a : BitVec 32) (s : Nat) : (a.toNat : Int) * 2 ^ s % 4294967296 = ((a <<< s).toNat : Int) := by
  rw [BitVec.toNat_shiftLeft, Nat.shiftLeft_eq, Int.natCast_emod, Int.natCast_mul, Int.natCast_pow]; rfl
theorem shr_int (a : BitVec 32) (s : Nat) : (a.toNat : Int) / 2 ^ s = ((a >>> s).toNat : Int) := by
  rw [BitVec.toNat_ushiftRight, Nat.shiftRight_eq_div_pow, Int.natCast_ediv, Int.natCast_pow]; rfl
theorem rotl_or (a : BitVec 32) (s : Nat) (hs : s < 32) : (a <<< s) ||| (a >>> (32 - s)) = a.rotateLeft s := by
  rw [BitVec.rotateLeft_def, Nat.mod_eq_of_lt hs]
theorem rotl (a : BitVec 32) (k : Int) (s : Nat) (hs : s < 32) (hk : k = s ∨ k = (s : Int) - 32) (w : World) :
    Calls Tryd.prog 71 #[u a, .int .i64 k] w fun e w' => e = .returned (u (a.rotateLeft s)) ∧ w = w' := by
  have h2 := bd a
  have hb := and31 k s hs hk
  clear hk
  go_enter Tryd.func71, Tryd.ntmps71
  go_wp2
  go_ret
  refine ⟨?_, rfl⟩
  show Ending.returned (.int .u32 (bits BinOp.or IntKind.u32 ((a.toNat : Int) * 2 ^ s % 4294967296) ((a.toNat : Int) / 2 ^ (32 - s)))) = _
  rw [shl_int, shr_int, b_or, rotl_or a s hs]
/-- What Shift hands back but for by 0: the word. -/
def sgn (a : BitVec 32) : Int := a.toInt
def shW (k : Int) (a : BitVec 32) (n : Nat) : BitVec 32 :=
  if k = 0 then a <<< n else if k = 1 then a >>> n else if k = 2 then a.sshiftRight n else a.rotateLeft ((32 - n % 32) % 32)
theorem bit1 (m : Nat) (hm : m < 18446744073709551616) : (bits BinOp.and IntKind.u64 (m : Int) 1 == 1) = decide (m % 2 = 1) := by
  rw [show (1 : Int) = ((1 : Nat) : Int) from rfl, bits_and_u64_nat m 1 hm (by omega), Nat.and_one_is_mod, Bool.eq_iff_iff]
  simp; omega
theorem left (a : BitVec 32) (n : Nat) (hn : n < 4294967296) (w : World) :
    Calls Tryd.prog 68 #[u a, .int .u32 n] w fun e w' => e = .returned (.tuple #[u (a <<< n), .bool (decide (a.toNat * 2 ^ n / 4294967296 % 2 = 1))]) ∧ w = w' := by
  have h2 := bd a
  go_enter Tryd.func68, Tryd.ntmps68
  go_wp2
  go_ret2
  refine ⟨?_, rfl⟩
  have e1 : IntKind.u64.wrap ((a.toNat : Int) * 2 ^ min n 64) = ((a.toNat * 2 ^ min n 64 % 18446744073709551616 : Nat) : Int) := by rw [IntKind.wrap_u64, Int.natCast_emod, Int.natCast_mul, Int.natCast_pow]; rfl
  show Ending.returned (.tuple #[.int .u32 (IntKind.u64.wrap ((a.toNat : Int) * 2 ^ min n 64) % 4294967296), .bool (bits BinOp.and IntKind.u64 (IntKind.u64.wrap ((a.toNat : Int) * 2 ^ min n 64) / 4294967296) 1 == 1)]) = _
  rw [e1, show ((4294967296 : Int)) = ((4294967296 : Nat) : Int) from rfl, ← Int.natCast_ediv, ← Int.natCast_emod, bit1 _ (by omega)]
  have e2 : a.toNat * 2 ^ min n 64 % 18446744073709551616 % 4294967296 = (a <<< n).toNat := by
    rw [BitVec.toNat_shiftLeft, Nat.shiftLeft_eq, Nat.mod_mod_of_dvd _ (by decide : 4294967296 ∣ 18446744073709551616)]
    rcases Nat.le_total n 64 with h | h
    · rw [Nat.min_eq_left h]
    · rw [Nat.min_eq_right h, show n = 64 + (n - 64) by omega, Nat.pow_add]
      rw [show (2 : Nat) ^ 64 = 4294967296 * 4294967296 by decide]
      rw [show a.toNat * (4294967296 * 4294967296 * 2 ^ (n - 64)) = 2 ^ 32 * (a.toNat * 4294967296 * 2 ^ (n - 64)) by rw [show (2 : Nat) ^ 32 = 4294967296 by decide]; ac_rfl, Nat.mul_mod_right]
      omega
  have e3 : a.toNat * 2 ^ min n 64 % 18446744073709551616 / 4294967296 % 2 = a.toNat * 2 ^ n / 4294967296 % 2 := by
    rcases Nat.le_total n 64 with h | h
    · rw [Nat.min_eq_left h]
      generalize a.toNat * 2 ^ n = m
      omega
    · rw [Nat.min_eq_right h, show n = 64 + (n - 64) by omega, Nat.pow_add]
      rw [show (2 : Nat) ^ 64 = 18446744073709551616 by decide]
      rw [show a.toNat * (18446744073709551616 * 2 ^ (n - 64)) = 4294967296 * (2 * (2147483648 * (a.toNat * 2 ^ (n - 64)))) by rw [show 18446744073709551616 = 4294967296 * (2 * 2147483648) by decide]; ac_rfl]
      rw [Nat.mul_div_cancel_left _ (by decide), Nat.mul_mod_right]
      omega
  rw [e2, e3]
theorem right (a : BitVec 32) (n : Nat) (hn : n < 4294967296) (w : World) :
    Calls Tryd.prog 69 #[u a, .int .u32 n] w fun e w' => e = .returned (.tuple #[u (a >>> n), .bool (decide (a.toNat * 2 / 2 ^ n % 2 = 1))]) ∧ w = w' := by
  have h2 := bd a
  go_enter Tryd.func69, Tryd.ntmps69
  go_wp2
  go_ret2
  refine ⟨?_, rfl⟩
  show Ending.returned (.tuple #[.int .u32 ((a.toNat : Int) * 2 / 2 ^ min n 64 / 2 % 4294967296), .bool (bits BinOp.and IntKind.u64 ((a.toNat : Int) * 2 / 2 ^ min n 64) 1 == 1)]) = _
  have e1 : (a.toNat : Int) * 2 / 2 ^ min n 64 = ((a.toNat * 2 / 2 ^ min n 64 : Nat) : Int) := by rw [Int.natCast_ediv, Int.natCast_mul, Int.natCast_pow]; rfl
  have e0 : a.toNat * 2 / 2 ^ min n 64 = a.toNat * 2 / 2 ^ n := by
    rcases Nat.le_total n 64 with h | h
    · rw [Nat.min_eq_left h]
    · rw [Nat.min_eq_right h, Nat.div_eq_of_lt (by omega), Nat.div_eq_of_lt (Nat.lt_of_lt_of_le (by omega : a.toNat * 2 < 2 ^ 64) (Nat.pow_le_pow_right (by omega) h))]
  have e4 : a.toNat * 2 / 2 ^ n ≤ a.toNat * 2 := Nat.div_le_self _ _
  rw [e1, e0, bit1 _ (by omega)]
  have e2 : ((a.toNat * 2 / 2 ^ n : Nat) : Int) / 2 % 4294967296 = ((a >>> n).toNat : Int) := by
    rw [BitVec.toNat_ushiftRight, Nat.shiftRight_eq_div_pow]
    have e5 : a.toNat * 2 / 2 ^ n / 2 = a.toNat / 2 ^ n := by rw [Nat.div_div_eq_div_mul, Nat.mul_comm (2 ^ n) 2, Nat.mul_comm a.toNat 2, Nat.mul_div_mul_left _ _ (by omega)]
    have e6 : a.toNat / 2 ^ n ≤ a.toNat := Nat.div_le_self _ _
    generalize a.toNat * 2 / 2 ^ n = m at *
    omega
  rw [e2]
theorem bit1_i64 (m : Int) : (bits BinOp.and IntKind.i64 m 1 == 1) = decide (m % 2 = 1) := by
  have e : bits BinOp.and IntKind.i64 m 1 = m % 2 := by
    show IntKind.i64.wrap ((BitVec.ofInt 64 m &&& BitVec.ofInt 64 1).toNat : Int) = _
    have h1 : (BitVec.ofInt 64 m &&& BitVec.ofInt 64 1).toNat = (m % 2).toNat := by
      rw [BitVec.toNat_and, show (BitVec.ofInt 64 1).toNat = 1 from rfl, Nat.and_one_is_mod, BitVec.toNat_ofInt]
      omega
    rw [h1, IntKind.wrap_i64]
    omega
  rw [e, Bool.eq_iff_iff]; simp
theorem toNat_int (x : BitVec 32) : (x.toNat : Int) = x.toInt % 4294967296 := by
  have h := congrArg BitVec.toNat (BitVec.ofInt_toInt (x := x))
  rw [BitVec.toNat_ofInt] at h
  omega
theorem rightS (a : BitVec 32) (n : Nat) (hn : n < 4294967296) (w : World) :
    Calls Tryd.prog 70 #[u a, .int .u32 n] w fun e w' => e = .returned (.tuple #[u (a.sshiftRight n), .bool (decide (a.toInt * 2 / 2 ^ n % 2 = 1))]) ∧ w = w' := by
  have h2 := bd a
  go_enter Tryd.func70, Tryd.ntmps70
  go_wp2
  go_ret2
  refine ⟨?_, rfl⟩
  show Ending.returned (.tuple #[.int .u32 (wrap64 (wrap64 (wrap32 (a.toNat : Int)) * 2) / 2 ^ min n 64 / 2 % 4294967296), .bool (bits BinOp.and IntKind.i64 (wrap64 (wrap64 (wrap32 (a.toNat : Int)) * 2) / 2 ^ min n 64) 1 == 1)]) = _
  have ht := toNat_int a
  have hlo := BitVec.le_toInt a
  have hhi := BitVec.toInt_lt (x := a)
  have e1 : wrap64 (wrap64 (wrap32 (a.toNat : Int)) * 2) = a.toInt * 2 := by
    unfold wrap64 wrap32
    omega
  have e0 : a.toInt * 2 / 2 ^ min n 64 = a.toInt * 2 / 2 ^ n := by
    rcases Nat.le_total n 64 with h | h
    · rw [Nat.min_eq_left h]
    · rw [Nat.min_eq_right h]
      have hp : (18446744073709551616 : Int) ≤ 2 ^ n := by
        have := Int.ofNat_le.2 (Nat.pow_le_pow_right (show 0 < 2 by decide) h)
        rw [Int.natCast_pow, Int.natCast_pow] at this
        exact this
      by_cases h0 : a.toInt < 0
      · rw [Int.ediv_eq_neg_one_of_neg_of_le (by omega) (by omega), Int.ediv_eq_neg_one_of_neg_of_le (by omega) (by omega)]
      · rw [Int.ediv_eq_zero_of_lt (by omega) (by omega), Int.ediv_eq_zero_of_lt (by omega) (by omega)]
  rw [e1, e0, bit1_i64]
  have e2 : a.toInt * 2 / 2 ^ n / 2 % 4294967296 = ((a.sshiftRight n).toNat : Int) := by
    rw [toNat_int, BitVec.toInt_sshiftRight, Int.shiftRight_eq_div_pow]
    have e5 : a.toInt * 2 / 2 ^ n / 2 = a.toInt / 2 ^ n := by
      have hp : (0 : Int) < 2 ^ n := Int.pow_pos (by omega)
      rw [Int.ediv_ediv_of_nonneg (by omega), Int.mul_ediv_mul_of_pos_left _ _ (by omega)]
    rw [e5, Int.natCast_pow]
    rfl
  rw [e2]
end Go.Proofs.YtkipfeljpngkeaaDoor.Word
