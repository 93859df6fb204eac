/- DERIVED. The program's Put answers as the reference's, whatever the numbers. By an AI agent. -/
import Derived.Test.YtkipfeljpngkeaaDoorTpPut
namespace Go.Proofs.YtkipfeljpngkeaaDoor.Tp
open Go.ChangeShapes Go.WideShapes Go.ChangeAt Go.RowKit Go.Sort ThRef
set_option linter.unusedVariables false
def sumT : List Nat → Nums → Nat
  | [], _ => 0
  | k :: l, s => putN (fldN k) (s.get (fldN k).of) + sumT l s
def chain : List Nat → Nat → Bool
  | [], _ => true
  | k :: l, lo => decide ((fldN k).wid + (fldN k).low ≤ lo) && chain l (fldN k).low
theorem putT_sum : ∀ (L : List Nat) (s : Nums) (acc lo : Nat), chain L lo = true → acc % 2 ^ lo = 0 → putT L s acc = acc + sumT L s
  | [], _, _, _, _, _ => rfl
  | k :: l, s, acc, lo, hc, ha => by
    simp only [chain, Bool.and_eq_true, decide_eq_true_eq] at hc
    obtain ⟨h1, h2⟩ := hc
    have hb : putN (fldN k) (s.get (fldN k).of) < 2 ^ lo := Nat.lt_of_lt_of_le (putN_lt _ _) (Nat.pow_le_pow_right (by decide) h1)
    have hq : acc = 2 ^ lo * (acc / 2 ^ lo) := by have := Nat.div_add_mod acc (2 ^ lo); omega
    have hor : acc ||| putN (fldN k) (s.get (fldN k).of) = acc + putN (fldN k) (s.get (fldN k).of) := by
      rw [hq]; exact (Nat.two_pow_add_eq_or_of_lt hb _).symm
    rw [putT, sumT, hor, putT_sum l s _ (fldN k).low h2]
    · omega
    · have hd : 2 ^ (fldN k).low ∣ 2 ^ lo := Nat.pow_dvd_pow 2 (by omega)
      have hd1 : 2 ^ (fldN k).low ∣ acc := Nat.dvd_trans hd (Nat.dvd_of_mod_eq_zero ha)
      have hd2 : 2 ^ (fldN k).low ∣ putN (fldN k) (s.get (fldN k).of) := ⟨_, by unfold putN; rw [Nat.mul_comm]⟩
      exact Nat.mod_eq_zero_of_dvd (Nat.dvd_add hd1 hd2)
theorem chain_ok (k : Nat) (hk : k < 21) : chain (shpN k).has (shpN k).low = true ∧ baseN k % 2 ^ (shpN k).low = 0 := by
  have : ∀ i : Fin 21, chain (shpN i.val).has (shpN i.val).low = true ∧ baseN i.val % 2 ^ (shpN i.val).low = 0 := by decide +kernel
  exact this ⟨k, hk⟩
set_option maxHeartbeats 4000000 in
theorem sum_putR (k : Nat) (hk : k < 21) (D N M : Nat) (imm : Int) (h0 : -1024 ≤ imm) : baseN k + sumT (shpN k).has ⟨D, N, M, imm⟩ = putR k D N M (if imm < 0 then imm + 2048 else imm).toNat := by
  have hI : ∃ I : Nat, (if imm < 0 then imm + 2048 else imm).toNat = I ∧ (imm = I ∨ imm = (I : Int) - 2048) := ⟨(if imm < 0 then imm + 2048 else imm).toNat, rfl, by split <;> omega⟩
  obtain ⟨I, e, hI⟩ := hI
  rw [e]
  clear e h0
  have hr : k = 0 ∨ k = 1 ∨ k = 2 ∨ k = 3 ∨ k = 4 ∨ k = 5 ∨ k = 6 ∨ k = 7 ∨ k = 8 ∨ k = 9 ∨ k = 10 ∨ k = 11 ∨ k = 12 ∨ k = 13 ∨ k = 14 ∨ k = 15 ∨ k = 16 ∨ k = 17 ∨ k = 18 ∨ k = 19 ∨ k = 20 := by omega
  clear hk
  rcases hr with rfl | rfl | rfl | rfl | rfl | rfl | rfl | rfl | rfl | rfl | rfl | rfl | rfl | rfl | rfl | rfl | rfl | rfl | rfl | rfl | rfl
  · rw [put0]; simp [baseN, sumT, putN, shpN, shps, fldN, flds, Nums.get]; omega
  · rw [put1]; simp [baseN, sumT, putN, shpN, shps, fldN, flds, Nums.get]; omega
  · rw [put2]; simp [baseN, sumT, putN, shpN, shps, fldN, flds, Nums.get]; omega
  · rw [put3]; simp [baseN, sumT, putN, shpN, shps, fldN, flds, Nums.get]; omega
  · rw [put4]; simp [baseN, sumT, putN, shpN, shps, fldN, flds, Nums.get]; omega
  · rw [put5]; simp [baseN, sumT, putN, shpN, shps, fldN, flds, Nums.get]; omega
  · rw [put6]; simp [baseN, sumT, putN, shpN, shps, fldN, flds, Nums.get]; omega
  · rw [put7]; simp [baseN, sumT, putN, shpN, shps, fldN, flds, Nums.get]; omega
  · rw [put8]; simp [baseN, sumT, putN, shpN, shps, fldN, flds, Nums.get]; omega
  · rw [put9]; simp [baseN, sumT, putN, shpN, shps, fldN, flds, Nums.get]; omega
  · rw [put10]; simp [baseN, sumT, putN, shpN, shps, fldN, flds, Nums.get]; omega
  · rw [put11]; simp [baseN, sumT, putN, shpN, shps, fldN, flds, Nums.get]; omega
  · rw [put12]; simp [baseN, sumT, putN, shpN, shps, fldN, flds, Nums.get]; omega
  · rw [put13]; simp [baseN, sumT, putN, shpN, shps, fldN, flds, Nums.get]; omega
  · rw [put14]; simp [baseN, sumT, putN, shpN, shps, fldN, flds, Nums.get]; omega
  · rw [put15]; simp [baseN, sumT, putN, shpN, shps, fldN, flds, Nums.get]; omega
  · rw [put16]; simp [baseN, sumT, putN, shpN, shps, fldN, flds, Nums.get]; omega
  · rw [put17]; simp [baseN, sumT, putN, shpN, shps, fldN, flds, Nums.get]; omega
  · rw [put18]; simp [baseN, sumT, putN, shpN, shps, fldN, flds, Nums.get]; omega
  · rw [put19]; simp [baseN, sumT, shpN, shps]
  · rw [put20]; simp [baseN, sumT, putN, shpN, shps, fldN, flds, Nums.get]; omega
end Go.Proofs.YtkipfeljpngkeaaDoor.Tp
