/- DERIVED. The walks of the laws on sums and selections: each returns true and writes nothing that was there. By an AI agent. -/
import Derived.Test.YtbkfhclmlpdmeaaDoorLaid
namespace Go.Proofs.YtbkfhclmlpdmeaaDoor
open Go.ChangeShapes Go.WideShapes Go.ChangeAt Go.RowKit WMath Word Lives
theorem word_wf (n : Int) (h : (Lit.int .u32 n).wf = true) : ∃ x : BitVec 32, n = (x.toNat : Int) := by
  have hb := bounds_u32 h
  exact word_of n hb.1 hb.2
theorem less_a (a b : BitVec 32) : sum (sum a (~~~b) true) b false = a := by
  apply BitVec.eq_of_toNat_eq
  simp only [sum, cin, BitVec.toNat_add, BitVec.toNat_not]
  have := a.isLt; have := b.isLt
  simp
  omega
theorem less_c (a b : BitVec 32) : carry a (~~~b) true = decide ((b.toNat : Int) ≤ a.toNat) := by
  unfold carry cin
  rw [BitVec.toNat_not]
  have := b.isLt
  rw [Bool.eq_iff_iff]; simp; omega
theorem b_not (x : BitVec 32) : bits .xor .u32 4294967295 (x.toNat : Int) = ((~~~x).toNat : Int) := by
  have h := b_xor 4294967295#32 x
  rw [show ((4294967295#32).toNat : Int) = 4294967295 from rfl] at h
  rw [h]
  congr 2
theorem un_not (x : BitVec 32) : Op.unary .xor (.int .u32 (x.toNat : Int)) = pure (Value.int .u32 ((~~~x).toNat : Int)) := by
  show pure (Value.int .u32 (bits .xor .u32 4294967295 (x.toNat : Int))) = _
  rw [b_not]
set_option maxRecDepth 100000 in
set_option maxHeartbeats 400000 in
theorem wordLess.walk (a0 : Int) (w0 : (Lit.int .u32 a0).wf = true) (a1 : Int) (w1 : (Lit.int .u32 a1).wf = true) (W : World) (hL : Lv W) :
    Calls Tryd.prog 8 #[.int .u32 a0, .int .u32 a1] W fun e w' => e = .returned (.bool true) ∧ Below W.heap.size W w' := by
  obtain ⟨a, rfl⟩ := word_wf a0 w0
  obtain ⟨b, rfl⟩ := word_wf a1 w1
  have HL := Lib.hid hL
  clear hL w0 w1
  have h2 := bd a; have h3 := bd b
  have hc := less_c a b
  have hs := less_a a b
  have hun := un_not b
  generalize ~~~b = nb at hun hc hs
  have HC := Lib.hid hc
  have HS := Lib.hid hs
  clear hc hs
  go_enter Tryd.func8, Tryd.ntmps8
  go_wp2_with fail
  refine (add a nb true _).mono ?_; rintro e w' ⟨rfl, rfl⟩
  go_wp2_with fail
  refine (add _ b false _).mono ?_; rintro e w' ⟨rfl, rfl⟩
  rw [HS.out, HC.out]
  go_wp2_with (go_at_call 13; refine (lives _ HL.out).mono ?_; rintro e w' ⟨rfl, hb⟩)
  go_ret
  exact ⟨rfl, hb⟩
end Go.Proofs.YtbkfhclmlpdmeaaDoor
