/- DERIVED. The program's Can answers as the reference's, whatever the numbers. By an AI agent. -/
import Derived.Test.YtkipfeljpngkeaaDoorTpCan
namespace Go.Proofs.YtkipfeljpngkeaaDoor.Tp
open Go.ChangeShapes Go.WideShapes Go.ChangeAt Go.RowKit Go.Sort ThRef
set_option linter.unusedVariables false
set_option maxHeartbeats 4000000 in
theorem canT_canB (k : Nat) (hk : k < 21) (d n m imm : Int) : canT (shpN k).has ⟨d, n, m, imm⟩ = canB k d n m imm := by
  have hr : k = 0 ∨ k = 1 ∨ k = 2 ∨ k = 3 ∨ k = 4 ∨ k = 5 ∨ k = 6 ∨ k = 7 ∨ k = 8 ∨ k = 9 ∨ k = 10 ∨ k = 11 ∨ k = 12 ∨ k = 13 ∨ k = 14 ∨ k = 15 ∨ k = 16 ∨ k = 17 ∨ k = 18 ∨ k = 19 ∨ k = 20 := by omega
  clear hk
  rcases hr with rfl | rfl | rfl | rfl | rfl | rfl | rfl | rfl | rfl | rfl | rfl | rfl | rfl | rfl | rfl | rfl | rfl | rfl | rfl | rfl | rfl
  all_goals
    rw [Bool.eq_iff_iff]
    simp [canT, canB, dB, restB, shpN, shps, fldN, flds, Nums.get, Nums.set, lowN, lows, highN, highs, hasB, shapeN, shapes]
    try omega
set_option maxHeartbeats 4000000 in
theorem can (op d n m imm : Int) (w : World) (hT : Tb w) : Calls Tryd.prog 51 #[ins op d n m imm] w fun e w' => e = .returned (.bool (canB op d n m imm)) ∧ Below w.heap.size w w' := by
  by_cases h0 : op < 0
  · have hfin : canB op d n m imm = false := by unfold canB; rw [decide_eq_false (by omega)]; rfl
    have HF := Lib.hid hfin
    clear hfin hT
    go_enter Tryd.func51, Tryd.ntmps51
    go_wp2
    go_ret
    exact ⟨by rw [HF.out]; rfl, (Below.refl _ _).alloc (Nat.le_refl _) _⟩
  by_cases h20 : 20 < op
  · have hfin : canB op d n m imm = false := by unfold canB; rw [decide_eq_false (show ¬ op ≤ 20 by omega)]; simp
    have HF := Lib.hid hfin
    clear hfin hT
    go_enter Tryd.func51, Tryd.ntmps51
    go_wp2
    go_ret
    exact ⟨by rw [HF.out]; rfl, (Below.refl _ _).alloc (Nat.le_refl _) _⟩
  obtain ⟨k, rfl⟩ := Int.eq_ofNat_of_zero_le (by omega : 0 ≤ op)
  have hk : k < 21 := by omega
  rw [← canT_canB k hk]
  exact can_body k hk ⟨d, n, m, imm⟩ w hT
end Go.Proofs.YtkipfeljpngkeaaDoor.Tp
