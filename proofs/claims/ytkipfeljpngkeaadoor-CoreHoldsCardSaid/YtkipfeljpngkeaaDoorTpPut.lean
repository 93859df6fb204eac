/- DERIVED. The contract of the program's Put. By an AI agent. -/
import Derived.Test.YtkipfeljpngkeaaDoorTpCan2
import Derived.Test.YtkipfeljpngkeaaDoorThForm
import Derived.Laws.BitsAllLaws
namespace Go.Proofs.YtkipfeljpngkeaaDoor.Tp
open Go.ChangeShapes Go.WideShapes Go.ChangeAt Go.RowKit Go.Sort ThRef
set_option linter.unusedVariables false
def putT : List Nat → Nums → Nat → Nat
  | [], _, h => h
  | k :: l, s, h => putT l s (h ||| putN (fldN k) (s.get (fldN k).of))
theorem fld_ok (x : Nat) (hx : x < 13) : (fldN x).wid ≤ 11 ∧ (fldN x).wid + (fldN x).low ≤ 16 ∧ (fldN x).low ≤ 15 ∧ -1024 ≤ (fldN x).least ∧ (fldN x).least ≤ 1 := by
  have : ∀ i : Fin 13, (fldN i.val).wid ≤ 11 ∧ (fldN i.val).wid + (fldN i.val).low ≤ 16 ∧ (fldN i.val).low ≤ 15 ∧ -1024 ≤ (fldN i.val).least ∧ (fldN i.val).least ≤ 1 := by decide +kernel
  exact this ⟨x, hx⟩
theorem putN_lt (f : Fld) (v : Int) : putN f v < 2 ^ (f.wid + f.low) := by
  unfold putN
  have hp := Nat.two_pow_pos f.wid
  have h0 : 0 ≤ v % ((2 ^ f.wid : Nat) : Int) := Int.emod_nonneg _ (by omega)
  have h1 : v % ((2 ^ f.wid : Nat) : Int) < ((2 ^ f.wid : Nat) : Int) := Int.emod_lt_of_pos _ (by omega)
  rw [Nat.pow_add]
  exact Nat.mul_lt_mul_of_pos_right (by omega) (Nat.two_pow_pos _)
theorem b_or16 (x y : Nat) (hx : x < 65536) (hy : y < 65536) : bits .or .u16 (x : Int) (y : Int) = ((x ||| y : Nat) : Int) := by
  have e : ∀ z : Nat, z < 65536 → (BitVec.ofInt 16 (z : Int)).toNat = z := fun z hz => by rw [BitVec.ofInt_natCast, BitVec.toNat_ofNat]; omega
  show IntKind.u16.wrap ((BitVec.ofInt 16 (x : Int) ||| BitVec.ofInt 16 (y : Int)).toNat : Int) = _
  rw [BitVec.toNat_or, e x hx, e y hy, IntKind.wrap_u16]
  have : x ||| y < 2 ^ 16 := Nat.or_lt_two_pow hx hy
  omega
def baseN (k : Nat) : Nat := (shpN k).head * 2 ^ (shpN k).low
theorem base_ok (k : Nat) (hk : k < 21) : baseN k < 65536 ∧ (shpN k).head < 65536 ∧ (shpN k).low ≤ 12 := by
  have : ∀ i : Fin 21, baseN i.val < 65536 ∧ (shpN i.val).head < 65536 ∧ (shpN i.val).low ≤ 12 := by decide +kernel
  exact this ⟨k, hk⟩
theorem base_wrap (k : Nat) (hk : k < 21) : IntKind.u16.wrap (((shpN k).head : Int) * 2 ^ (shpN k).low) = ((baseN k : Nat) : Int) := by
  have h := (base_ok k hk).1
  have e1 : (((shpN k).head : Int) * 2 ^ (shpN k).low) = ((baseN k : Nat) : Int) := by unfold baseN; rw [Int.natCast_mul, Int.natCast_pow]; rfl
  rw [e1, IntKind.wrap_u16]; omega
end Go.Proofs.YtkipfeljpngkeaaDoor.Tp
