/- DERIVED. Plain facts on words of 32 bits (of no program): the model's bit operations at two words are those of 'BitVec 32'. By an AI agent. -/
import Derived.Laws.BitsLemmas
import Derived.Laws.Bits64b
namespace Go.Proofs.YtkipfeljpngkeaaDoor.WMath
open Go

theorem ofInt_toNat (x : BitVec 32) : BitVec.ofInt 32 (x.toNat : Int) = x := by
  rw [BitVec.ofInt_natCast, BitVec.ofNat_toNat]; simp
theorem wrapU32 (x : BitVec 32) : IntKind.u32.wrap (x.toNat : Int) = (x.toNat : Int) := by
  rw [IntKind.wrap_u32]; have := x.isLt; omega
theorem b_and (x y : BitVec 32) : bits .and .u32 (x.toNat : Int) (y.toNat : Int) = ((x &&& y).toNat : Int) := by
  show IntKind.u32.wrap ((BitVec.ofInt 32 (x.toNat : Int) &&& BitVec.ofInt 32 (y.toNat : Int)).toNat : Int) = _
  rw [ofInt_toNat, ofInt_toNat, wrapU32]
theorem b_or (x y : BitVec 32) : bits .or .u32 (x.toNat : Int) (y.toNat : Int) = ((x ||| y).toNat : Int) := by
  show IntKind.u32.wrap ((BitVec.ofInt 32 (x.toNat : Int) ||| BitVec.ofInt 32 (y.toNat : Int)).toNat : Int) = _
  rw [ofInt_toNat, ofInt_toNat, wrapU32]
theorem b_xor (x y : BitVec 32) : bits .xor .u32 (x.toNat : Int) (y.toNat : Int) = ((x ^^^ y).toNat : Int) := by
  show IntKind.u32.wrap ((BitVec.ofInt 32 (x.toNat : Int) ^^^ BitVec.ofInt 32 (y.toNat : Int)).toNat : Int) = _
  rw [ofInt_toNat, ofInt_toNat, wrapU32]
theorem b_andNot (x y : BitVec 32) : bits .andNot .u32 (x.toNat : Int) (y.toNat : Int) = ((x &&& ~~~y).toNat : Int) := by
  show IntKind.u32.wrap ((BitVec.ofInt 32 (x.toNat : Int) &&& ~~~BitVec.ofInt 32 (y.toNat : Int)).toNat : Int) = _
  rw [ofInt_toNat, ofInt_toNat, wrapU32]

/-- A word out of an integer in its range. -/
theorem word_of (n : Int) (h0 : 0 ≤ n) (h1 : n ≤ 4294967295) : ∃ x : BitVec 32, n = (x.toNat : Int) :=
  ⟨BitVec.ofNat 32 n.toNat, by rw [BitVec.toNat_ofNat, Nat.mod_eq_of_lt (by omega)]; omega⟩
theorem eq_u (x y : BitVec 32) : (((x.toNat : Int)) == (y.toNat : Int)) = (x == y) := by
  rw [Bool.eq_iff_iff, beq_iff_eq, beq_iff_eq]; exact ⟨fun h => BitVec.eq_of_toNat_eq (by omega), fun h => by rw [h]⟩
theorem top (x : BitVec 32) : (((x.toNat : Int) / 2147483648) == 1) = x.msb := by
  rw [BitVec.msb_eq_decide, Bool.eq_iff_iff]; have := x.isLt; simp; omega
def cin (c : Bool) : BitVec 32 := if c then 1 else 0
def sum (a b : BitVec 32) (c : Bool) : BitVec 32 := a + b + cin c
def carry (a b : BitVec 32) (c : Bool) : Bool := decide (4294967296 ≤ a.toNat + b.toNat + (cin c).toNat)
def over (a b : BitVec 32) (c : Bool) : Bool := (a.msb ^^ (sum a b c).msb) && (b.msb ^^ (sum a b c).msb)
theorem cin_le (c : Bool) : (cin c).toNat ≤ 1 := by cases c <;> decide
theorem sum_int (a b : BitVec 32) (c : Bool) : ((a.toNat : Int) + b.toNat + (cin c).toNat) % 4294967296 = ((sum a b c).toNat : Int) := by
  unfold sum; rw [BitVec.toNat_add, BitVec.toNat_add]; omega
theorem carry_int (a b : BitVec 32) (c : Bool) : ((((a.toNat : Int) + b.toNat + (cin c).toNat) / 4294967296) == 1) = carry a b c := by
  unfold carry; rw [Bool.eq_iff_iff, beq_iff_eq, decide_eq_true_iff]; have := a.isLt; have := b.isLt; have := cin_le c; omega
end Go.Proofs.YtkipfeljpngkeaaDoor.WMath
