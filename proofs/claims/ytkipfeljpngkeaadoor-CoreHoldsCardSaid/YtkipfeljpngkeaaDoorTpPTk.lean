/- DERIVED. What Take finds is what Put puts: plain facts. By an AI agent. -/
import Derived.Test.YtkipfeljpngkeaaDoorTpBack
namespace Go.Proofs.YtkipfeljpngkeaaDoor
open Go.ChangeShapes Go.WideShapes Go.ChangeAt Go.RowKit Go.Sort ThRef Tp
set_option linter.unusedVariables false
theorem Tp.takeF_ok (h : Nat) : ∀ n op k s, takeF n op h = (k, s, 0) → headB k h = true ∧ canN k s = true ∧ s = tk k h ∧ k < op + n
  | 0, op, k, s, hr => by simp [takeF] at hr
  | n + 1, op, k, s, hr => by
    rw [takeF] at hr
    split at hr
    · rename_i hc
      simp at hc hr
      obtain ⟨rfl, rfl⟩ := hr
      exact ⟨hc.1, hc.2, rfl, by omega⟩
    · obtain ⟨h1, h2, h3, h4⟩ := Tp.takeF_ok h n (op + 1) k s hr
      exact ⟨h1, h2, h3, by omega⟩
set_option maxHeartbeats 8000000 in
theorem Tp.sum_tk (op : Nat) (ho : op < 21) (h : Nat) (hh : h < 65536) (hd : headB op h = true) : baseN op + sumT (shpN op).has (tk op h) = h := by
  unfold headB at hd
  rw [decide_eq_true_eq] at hd
  have hr : op = 0 ∨ op = 1 ∨ op = 2 ∨ op = 3 ∨ op = 4 ∨ op = 5 ∨ op = 6 ∨ op = 7 ∨ op = 8 ∨ op = 9 ∨ op = 10 ∨ op = 11 ∨ op = 12 ∨ op = 13 ∨ op = 14 ∨ op = 15 ∨ op = 16 ∨ op = 17 ∨ op = 18 ∨ op = 19 ∨ op = 20 := by omega
  clear ho
  rcases hr with rfl | rfl | rfl | rfl | rfl | rfl | rfl | rfl | rfl | rfl | rfl | rfl | rfl | rfl | rfl | rfl | rfl | rfl | rfl | rfl | rfl
  all_goals
    simp [shpN, shps] at hd
    simp [baseN, sumT, putN, shpN, shps, tk, tkT, takeN, nul, fldN, flds, Nums.get, Nums.set]
    omega
theorem Tp.put_take (op : Nat) (ho : op < 21) (h : Nat) (hh : h < 65536) (hd : headB op h = true) (hc : canN op (tk op h) = true) : putI op (tk op h).d (tk op h).n (tk op h).m (tk op h).i = h := by
  rw [putI_sum op ho _ _ _ _ hc]
  exact Tp.sum_tk op ho h hh hd
end Go.Proofs.YtkipfeljpngkeaaDoor
