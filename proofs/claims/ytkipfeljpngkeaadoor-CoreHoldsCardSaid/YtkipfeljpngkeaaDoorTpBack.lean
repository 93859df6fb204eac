/- DERIVED. Plain facts: what was put is taken; no two instructions have one halfword. By an AI agent. -/
import Derived.Test.YtkipfeljpngkeaaDoorTpPut2
import Derived.Test.YtkipfeljpngkeaaDoorTpTake
namespace Go.Proofs.YtkipfeljpngkeaaDoor.Tp
open Go.ChangeShapes Go.WideShapes Go.ChangeAt Go.RowKit Go.Sort ThRef
set_option linter.unusedVariables false
theorem sum_lt : ∀ (L : List Nat) (s : Nums) (lo : Nat), chain L lo = true → sumT L s < 2 ^ lo
  | [], _, lo, _ => Nat.two_pow_pos lo
  | k :: l, s, lo, hc => by
    simp only [chain, Bool.and_eq_true, decide_eq_true_eq] at hc
    obtain ⟨h1, h2⟩ := hc
    have h3 := sum_lt l s _ h2
    have hq : putN (fldN k) (s.get (fldN k).of) + 2 ^ (fldN k).low ≤ 2 ^ ((fldN k).wid + (fldN k).low) := by
      unfold putN
      have hp := Nat.two_pow_pos (fldN k).wid
      have h0 : 0 ≤ (s.get (fldN k).of) % ((2 ^ (fldN k).wid : Nat) : Int) := Int.emod_nonneg _ (by omega)
      have h1 : (s.get (fldN k).of) % ((2 ^ (fldN k).wid : Nat) : Int) < ((2 ^ (fldN k).wid : Nat) : Int) := Int.emod_lt_of_pos _ (by omega)
      generalize (s.get (fldN k).of) % ((2 ^ (fldN k).wid : Nat) : Int) = v at h0 h1
      have h4 : v.toNat + 1 ≤ 2 ^ (fldN k).wid := by omega
      calc v.toNat * 2 ^ (fldN k).low + 2 ^ (fldN k).low = (v.toNat + 1) * 2 ^ (fldN k).low := by rw [Nat.add_mul, Nat.one_mul]
        _ ≤ 2 ^ (fldN k).wid * 2 ^ (fldN k).low := Nat.mul_le_mul_right _ h4
        _ = _ := (Nat.pow_add _ _ _).symm
    have h5 : 2 ^ ((fldN k).wid + (fldN k).low) ≤ 2 ^ lo := Nat.pow_le_pow_right (by decide) h1
    rw [sumT]
    omega
def putI (k : Nat) (d n m imm : Int) : Nat := putR k d.toNat n.toNat m.toNat (if imm < 0 then imm + 2048 else imm).toNat
theorem putI_sum (k : Nat) (hk : k < 21) (d n m imm : Int) (h : canB k d n m imm = true) : putI k d n m imm = baseN k + sumT (shpN k).has ⟨d, n, m, imm⟩ := by
  obtain ⟨⟨d0, d1⟩, ⟨n0, n1⟩, ⟨m0, m1⟩, i0, i1⟩ := can_bounds k d n m imm h
  obtain ⟨D, rfl⟩ := Int.eq_ofNat_of_zero_le d0
  obtain ⟨N, rfl⟩ := Int.eq_ofNat_of_zero_le n0
  obtain ⟨M, rfl⟩ := Int.eq_ofNat_of_zero_le m0
  exact (sum_putR k hk D N M imm i0).symm
theorem head_put (k : Nat) (hk : k < 21) (d n m imm : Int) (h : canB k d n m imm = true) : headB k (putI k d n m imm) = true ∧ putI k d n m imm < 65536 := by
  obtain ⟨c1, c2⟩ := chain_ok k hk
  have h3 := sum_lt _ ⟨d, n, m, imm⟩ _ c1
  rw [putI_sum k hk d n m imm h]
  refine ⟨?_, ?_⟩
  · unfold headB baseN
    rw [decide_eq_true_eq, Nat.mul_comm, Nat.mul_add_div (Nat.two_pow_pos _), Nat.div_eq_of_lt h3, Nat.add_zero]
  · have hb : ∀ i : Fin 21, baseN i.val + 2 ^ (shpN i.val).low ≤ 65536 := by decide +kernel
    have := hb ⟨k, hk⟩
    simp only at this
    omega
theorem head_one (j k : Nat) (hj : j < 21) (hk : k < 21) (h : Nat) (h1 : headB j h = true) (h2 : headB k h = true) : j = k := by
  have H : ∀ a b : Fin 21, (shpN a.val).low ≤ (shpN b.val).low → (shpN a.val).head / 2 ^ ((shpN b.val).low - (shpN a.val).low) = (shpN b.val).head → a = b := by decide +kernel
  have key : ∀ a b : Fin 21, (shpN a.val).low ≤ (shpN b.val).low → headB a.val h = true → headB b.val h = true → a = b := by
    intro a b hl ha hb
    unfold headB at ha hb
    rw [decide_eq_true_eq] at ha hb
    refine H a b hl ?_
    rw [← ha, ← hb, Nat.div_div_eq_div_mul, ← Nat.pow_add]
    congr 2
    omega
  rcases Nat.le_total (shpN j).low (shpN k).low with hl | hl
  · have := key ⟨j, hj⟩ ⟨k, hk⟩ hl h1 h2
    exact congrArg Fin.val this
  · have := key ⟨k, hk⟩ ⟨j, hj⟩ hl h2 h1
    exact (congrArg Fin.val this).symm
theorem takeF_of (k h : Nat) (hk : k < 21) (h1 : headB k h = true) (h2 : canN k (tk k h) = true) : ∀ n op, op ≤ k → k < op + n → op + n ≤ 21 → takeF n op h = (k, tk k h, 0)
  | 0, op, _, _, _ => by omega
  | n + 1, op, ho, hn, hs => by
    rw [takeF]
    by_cases e : op = k
    · subst e
      rw [h1, h2]; rfl
    · have hf : headB op h = false := by
        cases hx : headB op h
        · rfl
        · exact absurd (head_one op k (by omega) hk h hx h1) e
      rw [hf]
      exact takeF_of k h hk h1 h2 n (op + 1) (by omega) (by omega) (by omega)
set_option maxHeartbeats 8000000 in
theorem tk_put (k : Nat) (hk : k < 21) (d n m imm : Int) (h : canB k d n m imm = true) : tk k (putI k d n m imm) = ⟨d, n, m, imm⟩ := by
  obtain ⟨⟨d0, d1⟩, ⟨n0, n1⟩, ⟨m0, m1⟩, i0, i1⟩ := can_bounds k d n m imm h
  rw [← canT_canB k hk] at h
  obtain ⟨D, rfl⟩ := Int.eq_ofNat_of_zero_le d0
  obtain ⟨N, rfl⟩ := Int.eq_ofNat_of_zero_le n0
  obtain ⟨M, rfl⟩ := Int.eq_ofNat_of_zero_le m0
  unfold putI
  simp only [Int.toNat_natCast]
  have hI : ∃ I : Nat, (if imm < 0 then imm + 2048 else imm).toNat = I ∧ (imm = I ∧ I < 1024 ∨ imm = (I : Int) - 2048 ∧ 1024 ≤ I ∧ I < 2048) := ⟨(if imm < 0 then imm + 2048 else imm).toNat, rfl, by split <;> omega⟩
  obtain ⟨I, e, hI⟩ := hI
  rw [e]
  clear e i0 i1 d0 n0 m0
  have hr : k = 0 ∨ k = 1 ∨ k = 2 ∨ k = 3 ∨ k = 4 ∨ k = 5 ∨ k = 6 ∨ k = 7 ∨ k = 8 ∨ k = 9 ∨ k = 10 ∨ k = 11 ∨ k = 12 ∨ k = 13 ∨ k = 14 ∨ k = 15 ∨ k = 16 ∨ k = 17 ∨ k = 18 ∨ k = 19 ∨ k = 20 := by omega
  clear hk
  rcases hr with rfl | rfl | rfl | rfl | rfl | rfl | rfl | rfl | rfl | rfl | rfl | rfl | rfl | rfl | rfl | rfl | rfl | rfl | rfl | rfl | rfl
  all_goals
    simp [canT, shpN, shps, fldN, flds, Nums.get, Nums.set] at h
    first | rw [put0] | rw [put1] | rw [put2] | rw [put3] | rw [put4] | rw [put5] | rw [put6] | rw [put7] | rw [put8] | rw [put9] | rw [put10] | rw [put11] | rw [put12] | rw [put13] | rw [put14] | rw [put15] | rw [put16] | rw [put17] | rw [put18] | rw [put19] | rw [put20]
    simp [tk, tkT, takeN, nul, shpN, shps, fldN, flds, Nums.set]
    omega
theorem take_put (k : Nat) (hk : k < 21) (d n m imm : Int) (h : canB k d n m imm = true) : takeF 21 0 (putI k d n m imm) = (k, ⟨d, n, m, imm⟩, 0) := by
  have ht := tk_put k hk d n m imm h
  have := takeF_of k (putI k d n m imm) hk (head_put k hk d n m imm h).1 (by rw [ht]; exact h) 21 0 (by omega) (by omega) (by omega)
  rw [this, ht]
end Go.Proofs.YtkipfeljpngkeaaDoor.Tp
