/- DERIVED. The walks of the laws on sums and selections: each returns true and writes nothing that was there. By an AI agent. -/
import Derived.Test.YtbkfhclmlpdmeaaDoorLaid
namespace Go.Proofs.YtbkfhclmlpdmeaaDoor
open Go.ChangeShapes Go.WideShapes Go.ChangeAt Go.RowKit WMath Word Lives
theorem word_wf (n : Int) (h : (Lit.int .u32 n).wf = true) : ∃ x : BitVec 32, n = (x.toNat : Int) := by
  have hb := bounds_u32 h
  exact word_of n hb.1 hb.2
theorem less_a (a b : BitVec 32) : sum (sum a (~~~b) true) b false = a := by
  apply BitVec.eq_of_toNat_eq
  simp only [sum, cin, BitVec.toNat_add, BitVec.toNat_not]
  have := a.isLt; have := b.isLt
  simp
  omega
theorem less_c (a b : BitVec 32) : carry a (~~~b) true = decide ((b.toNat : Int) ≤ a.toNat) := by
  unfold carry cin
  rw [BitVec.toNat_not]
  have := b.isLt
  rw [Bool.eq_iff_iff]; simp; omega
theorem b_not (x : BitVec 32) : bits .xor .u32 4294967295 (x.toNat : Int) = ((~~~x).toNat : Int) := by
  have h := b_xor 4294967295#32 x
  rw [show ((4294967295#32).toNat : Int) = 4294967295 from rfl] at h
  rw [h]
  congr 2
theorem un_not (x : BitVec 32) : Op.unary .xor (.int .u32 (x.toNat : Int)) = pure (Value.int .u32 ((~~~x).toNat : Int)) := by
  show pure (Value.int .u32 (bits .xor .u32 4294967295 (x.toNat : Int))) = _
  rw [b_not]
set_option maxRecDepth 100000 in
set_option maxHeartbeats 400000 in
theorem wordLess.walk (a0 : Int) (w0 : (Lit.int .u32 a0).wf = true) (a1 : Int) (w1 : (Lit.int .u32 a1).wf = true) (W : World) (hL : Lv W) :
    Calls Tryd.prog 8 #[.int .u32 a0, .int .u32 a1] W fun e w' => e = .returned (.bool true) ∧ Below W.heap.size W w' := by
  obtain ⟨a, rfl⟩ := word_wf a0 w0
  obtain ⟨b, rfl⟩ := word_wf a1 w1
  have HL := Lib.hid hL
  clear hL w0 w1
  have h2 := bd a; have h3 := bd b
  have hc := less_c a b
  have hs := less_a a b
  have hun := un_not b
  generalize ~~~b = nb at hun hc hs
  have HC := Lib.hid hc
  have HS := Lib.hid hs
  clear hc hs
  go_enter Tryd.func8, Tryd.ntmps8
  go_wp2_with fail
  refine (add a nb true _).mono ?_; rintro e w' ⟨rfl, rfl⟩
  go_wp2_with fail
  refine (add _ b false _).mono ?_; rintro e w' ⟨rfl, rfl⟩
  rw [HS.out, HC.out]
  go_wp2_with (go_at_call 13; refine (lives _ HL.out).mono ?_; rintro e w' ⟨rfl, hb⟩)
  go_ret
  exact ⟨rfl, hb⟩

def selW (m a b : BitVec 32) : BitVec 32 := (a &&& m) ||| (b &&& ~~~m)
theorem sel_xor (m a b : BitVec 32) : selW m a b ^^^ selW m b a = a ^^^ b := by
  apply BitVec.eq_of_getLsbD_eq; intro i hi
  simp only [selW, BitVec.getLsbD_xor, BitVec.getLsbD_or, BitVec.getLsbD_and, BitVec.getLsbD_not]
  cases m.getLsbD i <;> cases a.getLsbD i <;> cases b.getLsbD i <;> simp [hi]
theorem sel_and (m a b : BitVec 32) : selW m a b &&& selW m b a = a &&& b := by
  apply BitVec.eq_of_getLsbD_eq; intro i hi
  simp only [selW, BitVec.getLsbD_or, BitVec.getLsbD_and, BitVec.getLsbD_not]
  cases m.getLsbD i <;> cases a.getLsbD i <;> cases b.getLsbD i <;> simp [hi]
theorem sel_not (m a b : BitVec 32) : selW (~~~m) a b = selW m b a := by
  apply BitVec.eq_of_getLsbD_eq; intro i hi
  simp only [selW, BitVec.getLsbD_or, BitVec.getLsbD_and, BitVec.getLsbD_not]
  cases m.getLsbD i <;> cases a.getLsbD i <;> cases b.getLsbD i <;> simp [hi]
theorem not_sub (m : BitVec 32) : (4294967295 : Int) - (m.toNat : Int) = ((~~~m).toNat : Int) := by
  rw [BitVec.toNat_not]; have := m.isLt; omega
theorem selC (m a b : BitVec 32) (w : World) : Calls Tryd.prog 16 #[u m, u a, u b] w fun e w' => e = .returned (u (selW m a b)) ∧ w = w' := sel m a b w
set_option maxHeartbeats 400000 in
theorem wordHalves.walk (a0 : Int) (w0 : (Lit.int .u32 a0).wf = true) (a1 : Int) (w1 : (Lit.int .u32 a1).wf = true) (a2 : Int) (w2 : (Lit.int .u32 a2).wf = true) (W : World) (hL : Lv W) :
    Calls Tryd.prog 10 #[.int .u32 a0, .int .u32 a1, .int .u32 a2] W fun e w' => e = .returned (.bool true) ∧ Below W.heap.size W w' := by
  obtain ⟨m, rfl⟩ := word_wf a0 w0
  obtain ⟨a, rfl⟩ := word_wf a1 w1
  obtain ⟨b, rfl⟩ := word_wf a2 w2
  have HL := Lib.hid hL
  clear hL w0 w1 w2
  have h1 := bd m; have h2 := bd a; have h3 := bd b
  have c1 := selC m a b; have c2 := selC m b a; have c3 := selC (~~~m) a b
  rw [sel_not] at c3
  have e1 := b_xor (selW m a b) (selW m b a); have e2 := b_and (selW m a b) (selW m b a)
  rw [sel_xor] at e1; rw [sel_and] at e2
  have e3 := b_xor a b; have e4 := b_and a b
  have e5 := not_sub m
  generalize selW m a b = x at c1 c2 c3 e1 e2
  generalize selW m b a = y at c1 c2 c3 e1 e2
  generalize a ^^^ b = z1 at e1 e3
  generalize a &&& b = z2 at e2 e4
  generalize ~~~m = nm at c3 e5
  have C1 := Lib.hid c1; have C2 := Lib.hid c2; have C3 := Lib.hid c3; have E5 := Lib.hid e5
  clear c1 c2 c3 e5
  go_enter Tryd.func10, Tryd.ntmps10
  go_wp2_with fail
  refine (C1.out _).mono ?_; rintro e w' ⟨rfl, rfl⟩
  go_wp2_with fail
  refine (C2.out _).mono ?_; rintro e w' ⟨rfl, rfl⟩
  go_wp2_with fail
  rw [E5.out]
  refine (C3.out _).mono ?_; rintro e w' ⟨rfl, rfl⟩
  go_wp2_with (go_at_call 13; refine (lives _ HL.out).mono ?_; rintro e w' ⟨rfl, hb⟩)
  go_ret
  exact ⟨rfl, hb⟩
end Go.Proofs.YtbkfhclmlpdmeaaDoor
