/- DERIVED. The walks of the laws on sums and selections: each returns true and writes nothing that was there. By an AI agent. -/
import Derived.Test.YtkipfeljpngkeaaDoorWord
import Derived.OpenShut
namespace Go.Proofs.YtkipfeljpngkeaaDoor
open Go.ChangeShapes Go.WideShapes Go.ChangeAt Go.RowKit WMath Word
theorem word_wf (n : Int) (h : (Lit.int .u32 n).wf = true) : ∃ x : BitVec 32, n = (x.toNat : Int) := by
  have hb := bounds_u32 h
  exact word_of n hb.1 hb.2
theorem less_a (a b : BitVec 32) : sum (sum a (~~~b) true) b false = a := by
  apply BitVec.eq_of_toNat_eq
  simp only [sum, cin, BitVec.toNat_add, BitVec.toNat_not]
  have := a.isLt; have := b.isLt
  simp
  omega
theorem less_c (a b : BitVec 32) : carry a (~~~b) true = decide ((b.toNat : Int) ≤ a.toNat) := by
  unfold carry cin
  rw [BitVec.toNat_not]
  have := b.isLt
  rw [Bool.eq_iff_iff]; simp; omega
theorem b_not (x : BitVec 32) : bits .xor .u32 4294967295 (x.toNat : Int) = ((~~~x).toNat : Int) := by
  have h := b_xor 4294967295#32 x
  rw [show ((4294967295#32).toNat : Int) = 4294967295 from rfl] at h
  rw [h]
  congr 2
theorem un_not (x : BitVec 32) : Op.unary .xor (.int .u32 (x.toNat : Int)) = pure (Value.int .u32 ((~~~x).toNat : Int)) := by
  show pure (Value.int .u32 (bits .xor .u32 4294967295 (x.toNat : Int))) = _
  rw [b_not]
def selW (m a b : BitVec 32) : BitVec 32 := (a &&& m) ||| (b &&& ~~~m)
theorem sel_xor (m a b : BitVec 32) : selW m a b ^^^ selW m b a = a ^^^ b := by
  apply BitVec.eq_of_getLsbD_eq; intro i hi
  simp only [selW, BitVec.getLsbD_xor, BitVec.getLsbD_or, BitVec.getLsbD_and, BitVec.getLsbD_not]
  cases m.getLsbD i <;> cases a.getLsbD i <;> cases b.getLsbD i <;> simp [hi]
theorem sel_and (m a b : BitVec 32) : selW m a b &&& selW m b a = a &&& b := by
  apply BitVec.eq_of_getLsbD_eq; intro i hi
  simp only [selW, BitVec.getLsbD_or, BitVec.getLsbD_and, BitVec.getLsbD_not]
  cases m.getLsbD i <;> cases a.getLsbD i <;> cases b.getLsbD i <;> simp [hi]
theorem sel_not (m a b : BitVec 32) : selW (~~~m) a b = selW m b a := by
  apply BitVec.eq_of_getLsbD_eq; intro i hi
  simp only [selW, BitVec.getLsbD_or, BitVec.getLsbD_and, BitVec.getLsbD_not]
  cases m.getLsbD i <;> cases a.getLsbD i <;> cases b.getLsbD i <;> simp [hi]
theorem not_sub (m : BitVec 32) : (4294967295 : Int) - (m.toNat : Int) = ((~~~m).toNat : Int) := by
  rw [BitVec.toNat_not]; have := m.isLt; omega
end Go.Proofs.YtkipfeljpngkeaaDoor
