/- DERIVED. The contract of the reference's Same: whether two lists of numbers are one. By an AI agent. -/
import Derived.Test.YtkipfeljpngkeaaDoorThRef
namespace Go.Proofs.YtkipfeljpngkeaaDoor.ThRef
open Go.ChangeShapes Go.WideShapes Go.ChangeAt Go.RowKit
set_option linter.unusedVariables false
/-- A slice's address leads to these numbers (no address is wanted of none). -/
def Reads64 (w : World) (p : Option Addr) (xs : List Int) : Prop := xs = [] ∨ ∃ g o, p = some ⟨g, o, none⟩ ∧ ∀ i, i < xs.length → w.cell? ⟨g, o + i, none⟩ = some (.int .i64 (xs[i]?.getD 0))
theorem same_take (xs ys : List Int) (k : Nat) (hx : k < xs.length) (hl : xs.length = ys.length) (h : xs.take k = ys.take k) (he : xs[k]?.getD 0 = ys[k]?.getD 0) : xs.take (k + 1) = ys.take (k + 1) := by
  rw [List.take_succ_eq_append_getElem hx, List.take_succ_eq_append_getElem (by omega), h]
  rw [List.getElem?_eq_getElem hx, List.getElem?_eq_getElem (by omega)] at he
  simp only [Option.getD_some] at he
  rw [he]
end Go.Proofs.YtkipfeljpngkeaaDoor.ThRef
