/- DERIVED. A word shifted bit by bit: the reference's way, and that it comes to the program's. By an AI agent. -/
import Derived.Test.YtkipfeljpngkeaaDoorShift2
namespace Go.Proofs.YtkipfeljpngkeaaDoor.Co
open WMath Word
set_option linter.unusedVariables false
set_option linter.unusedSimpArgs false
/-- What the inner loop sets at bit j. -/
def nbi (k : Nat) (x : BitVec 32) (j : Nat) : Bool := if k = 0 then decide (0 < j) && x.getLsbD (j - 1) else decide (j < 31) && x.getLsbD (j + 1)
/-- All bits of the word moved by one. -/
def nb (k : Nat) (x : BitVec 32) (j : Nat) : Bool := if j = 31 ∧ k = 2 then x.getLsbD 31 else if j = 31 ∧ k = 3 then x.getLsbD 0 else nbi k x j
def cry (k : Nat) (x : BitVec 32) : Bool := if k = 0 then x.getLsbD 31 else x.getLsbD 0
theorem rot_get (a : BitVec 32) (n i : Nat) (hi : i < 32) : (a.rotateLeft n).getLsbD i = a.getLsbD ((i + 32 - n % 32) % 32) := by
  rw [BitVec.getLsbD_rotateLeft]
  by_cases h : i < n % 32
  · simp only [h, decide_true, cond_true]
    congr 1; omega
  · simp only [h, decide_false, cond_false, hi, decide_true, Bool.true_and]
    congr 1; omega
theorem rot_rot (a : BitVec 32) (x y z : Nat) (h : z % 32 = (x + y) % 32) : (a.rotateLeft x).rotateLeft y = a.rotateLeft z := by
  apply BitVec.eq_of_getLsbD_eq; intro i hi
  rw [rot_get _ _ _ hi, rot_get _ _ _ (by omega), rot_get _ _ _ hi]
  congr 1; omega
theorem shV_twice (k : Int) (a : BitVec 32) (x y : Nat) : shV k (shV k a x) y = shV k a (x + y) := by
  unfold shV
  by_cases kk : k < 0 ∨ 3 < k
  · simp [kk]
  simp only [kk, if_false]
  by_cases hx : x = 0
  · subst hx; simp
  by_cases hy : y = 0
  · subst hy; simp
  simp only [hx, hy, if_false, show ¬ (x + y = 0) by omega]
  by_cases h0 : k = 0
  · simp only [h0, if_true]; rw [BitVec.shiftLeft_add]
  by_cases h1 : k = 1
  · simp only [h1, if_true]; apply BitVec.eq_of_toNat_eq; simp [Nat.shiftRight_add]
  by_cases h2 : k = 2
  · subst h2; simp [BitVec.sshiftRight_add]
  simp only [h0, h1, h2, if_false]
  exact rot_rot _ _ _ _ (by omega)
theorem sh_one (k : Nat) (hk : k < 4) (x : BitVec 32) (j : Nat) (hj : j < 32) : (shV k x 1).getLsbD j = nb k x j := by
  have hr : k = 0 ∨ k = 1 ∨ k = 2 ∨ k = 3 := by omega
  rcases hr with rfl | rfl | rfl | rfl
  · simp only [shV, nb, nbi]
    simp [BitVec.getLsbD_shiftLeft]
    by_cases h : j = 0
    · subst h; simp
    · simp [h, hj]; intro; omega
  · simp only [shV, nb, nbi]
    simp [BitVec.getLsbD_ushiftRight]
    by_cases h : j = 31
    · subst h; simp
    · rw [Nat.add_comm]; simp [show j < 31 by omega]
  · simp only [shV, nb, nbi]
    simp [BitVec.getLsbD_sshiftRight]
    by_cases h : j = 31
    · subst h; simp [BitVec.msb_eq_getLsbD_last]
    · rw [Nat.add_comm]; simp [show j < 31 by omega, show j + 1 < 32 by omega, h, show ¬ 32 ≤ j by omega]
  · show ((x.rotateLeft 31).getLsbD j) = _
    rw [rot_get _ _ _ hj]
    simp only [nb, nbi]
    by_cases h : j = 31
    · subst h; simp
    · rw [show (j + 32 - 31 % 32) % 32 = j + 1 by omega]; simp [h, show j < 31 by omega]
theorem sh_succ (k : Nat) (hk : k < 4) (a : BitVec 32) (i j : Nat) (hj : j < 32) : (shV k a (i + 1)).getLsbD j = nb k (shV k a i) j := by
  rw [← shV_twice, sh_one k hk _ _ hj]
theorem bit0 (x : BitVec 32) : x.getLsbD 0 = decide (x.toNat % 2 = 1) := by
  rw [← BitVec.testBit_toNat, Nat.testBit_eq_decide_div_mod_eq]; simp
theorem shV_zero (k : Nat) (hk : k < 4) (a : BitVec 32) : shV k a 0 = a := by
  unfold shV; rw [if_neg (by omega), if_pos rfl]
theorem shc_succ (k : Nat) (hk : k < 4) (a : BitVec 32) (i : Nat) (c : Bool) : shC k a (i + 1) c = cry k (shV k a i) := by
  have hr : k = 0 ∨ k = 1 ∨ k = 2 ∨ k = 3 := by omega
  rcases hr with rfl | rfl | rfl | rfl
  · have e : shV (0 : Nat) a i = a <<< i := by
      unfold shV; by_cases h : i = 0
      · subst h; simp
      · simp [h]
    rw [e]
    show decide (a.toNat * 2 ^ (i + 1) / 4294967296 % 2 = 1) = (a <<< i).getLsbD 31
    have := Nat.testBit_shiftLeft (x := a.toNat) (i := i + 1) (j := 32)
    rw [Nat.testBit_eq_decide_div_mod_eq, Nat.shiftLeft_eq] at this
    rw [show (4294967296 : Nat) = 2 ^ 32 from rfl, this, BitVec.getLsbD_shiftLeft, ← BitVec.testBit_toNat]
    by_cases h : i ≤ 31
    · simp [show i + 1 ≤ 32 by omega, show ¬ 31 < i by omega, show 32 - (i + 1) = 31 - i by omega]
    · simp [show ¬ (i + 1 ≤ 32) by omega, show 31 < i by omega]
  · have e : shV (1 : Nat) a i = a >>> i := by
      unfold shV; by_cases h : i = 0
      · subst h; simp
      · simp [h]
    rw [e]
    show decide (a.toNat * 2 / 2 ^ (i + 1) % 2 = 1) = (a >>> i).getLsbD 0
    rw [BitVec.getLsbD_ushiftRight, ← BitVec.testBit_toNat, Nat.testBit_eq_decide_div_mod_eq, Nat.add_zero, Nat.pow_succ, Nat.mul_div_mul_right _ _ (by decide)]
    rfl
  · have e : shV (2 : Nat) a i = a.sshiftRight i := by
      unfold shV; by_cases h : i = 0
      · subst h; simp
      · simp [h]
    rw [e]
    show decide (a.toInt * 2 / 2 ^ (i + 1) % 2 = 1) = (a.sshiftRight i).getLsbD 0
    rw [bit0]
    have h1 := toNat_int (a.sshiftRight i)
    have h2 : (a.sshiftRight i).toInt = a.toInt / 2 ^ i := by rw [BitVec.toInt_sshiftRight, Int.shiftRight_eq_div_pow]; rfl
    have h3 : a.toInt * 2 / 2 ^ (i + 1) = a.toInt / 2 ^ i := by
      rw [Int.pow_succ, Int.mul_ediv_mul_of_pos_left _ _ (by decide)]
    rw [h3, ← h2]
    generalize (a.sshiftRight i).toInt = z at *
    generalize (a.sshiftRight i).toNat = q at *
    rw [decide_eq_decide]; omega
  · show (a.rotateLeft ((32 - (i + 1) % 32) % 32)).msb = (shV (3 : Nat) a i).getLsbD 0
    have h := sh_succ 3 (by decide) a i 31 (by decide)
    have e : shV (3 : Nat) a (i + 1) = a.rotateLeft ((32 - (i + 1) % 32) % 32) := by unfold shV; simp
    rw [e] at h
    rw [BitVec.msb_eq_getLsbD_last]
    rw [show (32 - 1 : Nat) = 31 from rfl, h]
    simp [nb]
theorem sh_far (k : Nat) (hk : k < 3) (a : BitVec 32) (n : Nat) (hn : 32 ≤ n) : shV k a n = shV k a 32 := by
  have hr : k = 0 ∨ k = 1 ∨ k = 2 := by omega
  rcases hr with rfl | rfl | rfl
  · have e : ∀ m : Nat, 32 ≤ m → shV (0 : Nat) a m = 0#32 := fun m hm => by
      unfold shV; simp only [show ¬ m = 0 by omega, if_false]; simp
      exact BitVec.shiftLeft_eq_zero hm
    rw [e n hn, e 32 (by decide)]
  · have e : ∀ m : Nat, 32 ≤ m → shV (1 : Nat) a m = 0#32 := fun m hm => by
      unfold shV; simp only [show ¬ m = 0 by omega, if_false]; simp
      exact BitVec.ushiftRight_eq_zero hm
    rw [e n hn, e 32 (by decide)]
  · have e : ∀ m : Nat, 32 ≤ m → ∀ j, j < 32 → (shV (2 : Nat) a m).getLsbD j = a.msb := fun m hm j hj => by
      have e0 : shV (2 : Nat) a m = a.sshiftRight m := by unfold shV; simp [show ¬ m = 0 by omega]
      rw [e0, BitVec.getLsbD_sshiftRight]
      simp [show ¬ 32 ≤ j by omega]
      intro h; omega
    apply BitVec.eq_of_getLsbD_eq; intro j hj
    rw [e n hn j hj, e 32 (by decide) j hj]
/-- How far the reference goes. -/
def rby (k n : Nat) : Nat := if k = 3 ∧ 64 < n then 32 + n % 32 else n
theorem sh_rby (k : Nat) (hk : k < 4) (a : BitVec 32) (n : Nat) (c : Bool) : shV k a (min (rby k n) 70) = shV k a n ∧ shC k a (min (rby k n) 70) c = shC k a n c := by
  by_cases h3 : k = 3
  · subst h3
    by_cases hn : 64 < n
    · have e : min (rby 3 n) 70 = 32 + n % 32 := by unfold rby; rw [if_pos ⟨rfl, hn⟩]; omega
      rw [e]
      have e2 : (32 - (32 + n % 32) % 32) % 32 = (32 - n % 32) % 32 := by omega
      constructor
      · unfold shV; simp [show ¬ n = 0 by omega, show ¬ (32 + n % 32 = 0) by omega, e2]
      · unfold shC; simp [show ¬ n = 0 by omega, show ¬ (32 + n % 32 = 0) by omega, e2]
    · have e : min (rby 3 n) 70 = n := by unfold rby; rw [if_neg (by omega)]; omega
      rw [e]; exact ⟨rfl, rfl⟩
  · have e : rby k n = n := by unfold rby; rw [if_neg (by omega)]
    rw [e]
    by_cases hn : n ≤ 70
    · rw [Nat.min_eq_left hn]; exact ⟨rfl, rfl⟩
    · rw [Nat.min_eq_right (by omega)]
      refine ⟨by rw [sh_far k (by omega) a 70 (by decide), sh_far k (by omega) a n (by omega)], ?_⟩
      obtain ⟨m, rfl⟩ : ∃ m, n = m + 1 := ⟨n - 1, by omega⟩
      rw [shc_succ k hk, shc_succ k hk, sh_far k (by omega) a 69 (by decide), sh_far k (by omega) a m (by omega)]
end Go.Proofs.YtkipfeljpngkeaaDoor.Co
