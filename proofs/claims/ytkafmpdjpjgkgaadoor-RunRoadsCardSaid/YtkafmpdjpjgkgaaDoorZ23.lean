/- DERIVED. LkOp, LkHd in one text. By an AI agent. -/
import Derived.Test.YtkafmpdjpjgkgaaDoorZ21
import Derived.Test.YtkafmpdjpjgkgaaDoorZ17
import Derived.Deep.RegionHeld3
import Derived.BigRegion
/- DERIVED. The contracts of the program's operands, address and unset. By an AI agent. -/
namespace Go.Proofs.YtkafmpdjpjgkgaaDoor.Lk
open Go.ChangeShapes Go.WideShapes Go.ChangeAt Go.RowKit WMath Word Args Mm Co
set_option linter.unusedVariables false
set_option linter.unusedSimpArgs false
theorem sub_w (a b : BitVec 32) : ((a.toNat : Int) - (b.toNat : Int)) % 4294967296 = ((a - b).toNat : Int) := by
  rw [BitVec.toNat_sub]; have := a.isLt; have := b.isLt; omega
/-- The two boxes of the heads. -/
structure H2 (w : World) (op D N M : Nat) (i : Int) (s : S) (W : World) : Prop where
  b0 : Blk W w.heap.size 58 (iC op D N M i)
  b1 : Blk W (w.heap.size + 1) 51 (sC s)
  low : Below w.heap.size w W
theorem h2_new (w : World) (op D N M : Nat) (i : Int) (s : S) : H2 w op D N M i s ((w.alloc (.cells (iC op D N M i) 58)).alloc (.cells (sC s) 51)) := by
  have hb1 := Blk.new (w.alloc (.cells (iC op D N M i) 58)) 51 (sC s)
  have hb0 := (Blk.new w 58 (iC op D N M i)).alloc (.cells (sC s) 51)
  simp only [World.size_alloc] at hb1
  exact ⟨hb0, hb1, ((Below.refl _ _).alloc (Nat.le_refl _) _).alloc (by simp) _⟩
set_option maxRecDepth 100000 in
set_option maxHeartbeats 2000000 in
theorem opr0 (D N M : Nat)  (i : Int) (s : S) (w : World) : Calls Tryd.prog 70 #[.agg (iC 0 D N M i), sv s] w fun e w' => e = .returned (.tuple #[u (0#32), u (BitVec.ofInt 32 i)]) ∧ Below w.heap.size w w' := by
  have hw := wrap_ofInt i
  generalize BitVec.ofInt 32 i = imm at *
  have HB := Lib.hid (h2_new w 0 D N M i s)
  go_enter Tryd.func70, Tryd.ntmps70
  go_upto_region 1 with fail
  generalize ((w.alloc (.cells #[.int .i64 0, .int .i64 D, .int .i64 N, .int .i64 M, .int .i64 i] 58)).alloc (.cells (sC s) 51)) = W0 at *
  have i0 : W0.cell? ⟨w.heap.size, 0, none⟩ = some (.int .i64 0) := HB.out.b0.cell 0
  have i1 : W0.cell? ⟨w.heap.size, 1, none⟩ = some (.int .i64 D) := HB.out.b0.cell 1
  have i2 : W0.cell? ⟨w.heap.size, 2, none⟩ = some (.int .i64 N) := HB.out.b0.cell 2
  have i3 : W0.cell? ⟨w.heap.size, 3, none⟩ = some (.int .i64 M) := HB.out.b0.cell 3
  have i4 : W0.cell? ⟨w.heap.size, 4, none⟩ = some (.int .i64 i) := HB.out.b0.cell 4
  go_wp2_with fail
  go_ret2
  exact ⟨rfl, HB.out.low⟩
set_option maxRecDepth 100000 in
set_option maxHeartbeats 2000000 in
theorem opr1 (D N M : Nat) (hD : D < 8) (i : Int) (s : S) (w : World) : Calls Tryd.prog 70 #[.agg (iC 1 D N M i), sv s] w fun e w' => e = .returned (.tuple #[u (s.r D), u (BitVec.ofInt 32 i)]) ∧ Below w.heap.size w w' := by
  have hw := wrap_ofInt i
  generalize BitVec.ofInt 32 i = imm at *
  have D2 : (D : Int) < 8 := by omega
  have HB := Lib.hid (h2_new w 1 D N M i s)
  go_enter Tryd.func70, Tryd.ntmps70
  go_upto_region 1 with fail
  generalize ((w.alloc (.cells #[.int .i64 1, .int .i64 D, .int .i64 N, .int .i64 M, .int .i64 i] 58)).alloc (.cells (sC s) 51)) = W0 at *
  have i0 : W0.cell? ⟨w.heap.size, 0, none⟩ = some (.int .i64 1) := HB.out.b0.cell 0
  have i1 : W0.cell? ⟨w.heap.size, 1, none⟩ = some (.int .i64 D) := HB.out.b0.cell 1
  have i2 : W0.cell? ⟨w.heap.size, 2, none⟩ = some (.int .i64 N) := HB.out.b0.cell 2
  have i3 : W0.cell? ⟨w.heap.size, 3, none⟩ = some (.int .i64 M) := HB.out.b0.cell 3
  have i4 : W0.cell? ⟨w.heap.size, 4, none⟩ = some (.int .i64 i) := HB.out.b0.cell 4
  have sD := HB.out.b1.reg D hD
  go_wp2_with fail
  go_ret2
  exact ⟨rfl, HB.out.low⟩
set_option maxRecDepth 100000 in
set_option maxHeartbeats 2000000 in
theorem opr2 (D N M : Nat) (hD : D < 8) (i : Int) (s : S) (w : World) : Calls Tryd.prog 70 #[.agg (iC 2 D N M i), sv s] w fun e w' => e = .returned (.tuple #[u (s.r D), u (BitVec.ofInt 32 i)]) ∧ Below w.heap.size w w' := by
  have hw := wrap_ofInt i
  generalize BitVec.ofInt 32 i = imm at *
  have D2 : (D : Int) < 8 := by omega
  have HB := Lib.hid (h2_new w 2 D N M i s)
  go_enter Tryd.func70, Tryd.ntmps70
  go_upto_region 1 with fail
  generalize ((w.alloc (.cells #[.int .i64 2, .int .i64 D, .int .i64 N, .int .i64 M, .int .i64 i] 58)).alloc (.cells (sC s) 51)) = W0 at *
  have i0 : W0.cell? ⟨w.heap.size, 0, none⟩ = some (.int .i64 2) := HB.out.b0.cell 0
  have i1 : W0.cell? ⟨w.heap.size, 1, none⟩ = some (.int .i64 D) := HB.out.b0.cell 1
  have i2 : W0.cell? ⟨w.heap.size, 2, none⟩ = some (.int .i64 N) := HB.out.b0.cell 2
  have i3 : W0.cell? ⟨w.heap.size, 3, none⟩ = some (.int .i64 M) := HB.out.b0.cell 3
  have i4 : W0.cell? ⟨w.heap.size, 4, none⟩ = some (.int .i64 i) := HB.out.b0.cell 4
  have sD := HB.out.b1.reg D hD
  go_wp2_with fail
  go_ret2
  exact ⟨rfl, HB.out.low⟩
set_option maxRecDepth 100000 in
set_option maxHeartbeats 2000000 in
theorem opr3 (D N M : Nat) (hD : D < 8) (i : Int) (s : S) (w : World) : Calls Tryd.prog 70 #[.agg (iC 3 D N M i), sv s] w fun e w' => e = .returned (.tuple #[u (s.r D), u (BitVec.ofInt 32 i)]) ∧ Below w.heap.size w w' := by
  have hw := wrap_ofInt i
  generalize BitVec.ofInt 32 i = imm at *
  have D2 : (D : Int) < 8 := by omega
  have HB := Lib.hid (h2_new w 3 D N M i s)
  go_enter Tryd.func70, Tryd.ntmps70
  go_upto_region 1 with fail
  generalize ((w.alloc (.cells #[.int .i64 3, .int .i64 D, .int .i64 N, .int .i64 M, .int .i64 i] 58)).alloc (.cells (sC s) 51)) = W0 at *
  have i0 : W0.cell? ⟨w.heap.size, 0, none⟩ = some (.int .i64 3) := HB.out.b0.cell 0
  have i1 : W0.cell? ⟨w.heap.size, 1, none⟩ = some (.int .i64 D) := HB.out.b0.cell 1
  have i2 : W0.cell? ⟨w.heap.size, 2, none⟩ = some (.int .i64 N) := HB.out.b0.cell 2
  have i3 : W0.cell? ⟨w.heap.size, 3, none⟩ = some (.int .i64 M) := HB.out.b0.cell 3
  have i4 : W0.cell? ⟨w.heap.size, 4, none⟩ = some (.int .i64 i) := HB.out.b0.cell 4
  have sD := HB.out.b1.reg D hD
  go_wp2_with fail
  go_ret2
  exact ⟨rfl, HB.out.low⟩
set_option maxRecDepth 100000 in
set_option maxHeartbeats 2000000 in
theorem opr4 (D N M : Nat) (hM : M < 8) (i : Int) (s : S) (w : World) : Calls Tryd.prog 70 #[.agg (iC 4 D N M i), sv s] w fun e w' => e = .returned (.tuple #[u (s.r M), u (BitVec.ofInt 32 i)]) ∧ Below w.heap.size w w' := by
  have hw := wrap_ofInt i
  generalize BitVec.ofInt 32 i = imm at *
  have M2 : (M : Int) < 8 := by omega
  have HB := Lib.hid (h2_new w 4 D N M i s)
  go_enter Tryd.func70, Tryd.ntmps70
  go_upto_region 1 with fail
  generalize ((w.alloc (.cells #[.int .i64 4, .int .i64 D, .int .i64 N, .int .i64 M, .int .i64 i] 58)).alloc (.cells (sC s) 51)) = W0 at *
  have i0 : W0.cell? ⟨w.heap.size, 0, none⟩ = some (.int .i64 4) := HB.out.b0.cell 0
  have i1 : W0.cell? ⟨w.heap.size, 1, none⟩ = some (.int .i64 D) := HB.out.b0.cell 1
  have i2 : W0.cell? ⟨w.heap.size, 2, none⟩ = some (.int .i64 N) := HB.out.b0.cell 2
  have i3 : W0.cell? ⟨w.heap.size, 3, none⟩ = some (.int .i64 M) := HB.out.b0.cell 3
  have i4 : W0.cell? ⟨w.heap.size, 4, none⟩ = some (.int .i64 i) := HB.out.b0.cell 4
  have sM := HB.out.b1.reg M hM
  go_wp2_with fail
  go_ret2
  exact ⟨rfl, HB.out.low⟩
set_option maxRecDepth 100000 in
set_option maxHeartbeats 2000000 in
theorem opr5 (D N M : Nat) (hM : M < 8) (i : Int) (s : S) (w : World) : Calls Tryd.prog 70 #[.agg (iC 5 D N M i), sv s] w fun e w' => e = .returned (.tuple #[u (s.r M), u (BitVec.ofInt 32 i)]) ∧ Below w.heap.size w w' := by
  have hw := wrap_ofInt i
  generalize BitVec.ofInt 32 i = imm at *
  have M2 : (M : Int) < 8 := by omega
  have HB := Lib.hid (h2_new w 5 D N M i s)
  go_enter Tryd.func70, Tryd.ntmps70
  go_upto_region 1 with fail
  generalize ((w.alloc (.cells #[.int .i64 5, .int .i64 D, .int .i64 N, .int .i64 M, .int .i64 i] 58)).alloc (.cells (sC s) 51)) = W0 at *
  have i0 : W0.cell? ⟨w.heap.size, 0, none⟩ = some (.int .i64 5) := HB.out.b0.cell 0
  have i1 : W0.cell? ⟨w.heap.size, 1, none⟩ = some (.int .i64 D) := HB.out.b0.cell 1
  have i2 : W0.cell? ⟨w.heap.size, 2, none⟩ = some (.int .i64 N) := HB.out.b0.cell 2
  have i3 : W0.cell? ⟨w.heap.size, 3, none⟩ = some (.int .i64 M) := HB.out.b0.cell 3
  have i4 : W0.cell? ⟨w.heap.size, 4, none⟩ = some (.int .i64 i) := HB.out.b0.cell 4
  have sM := HB.out.b1.reg M hM
  go_wp2_with fail
  go_ret2
  exact ⟨rfl, HB.out.low⟩
set_option maxRecDepth 100000 in
set_option maxHeartbeats 2000000 in
theorem opr6 (D N M : Nat) (hM : M < 8) (i : Int) (s : S) (w : World) : Calls Tryd.prog 70 #[.agg (iC 6 D N M i), sv s] w fun e w' => e = .returned (.tuple #[u (s.r M), u (BitVec.ofInt 32 i)]) ∧ Below w.heap.size w w' := by
  have hw := wrap_ofInt i
  generalize BitVec.ofInt 32 i = imm at *
  have M2 : (M : Int) < 8 := by omega
  have HB := Lib.hid (h2_new w 6 D N M i s)
  go_enter Tryd.func70, Tryd.ntmps70
  go_upto_region 1 with fail
  generalize ((w.alloc (.cells #[.int .i64 6, .int .i64 D, .int .i64 N, .int .i64 M, .int .i64 i] 58)).alloc (.cells (sC s) 51)) = W0 at *
  have i0 : W0.cell? ⟨w.heap.size, 0, none⟩ = some (.int .i64 6) := HB.out.b0.cell 0
  have i1 : W0.cell? ⟨w.heap.size, 1, none⟩ = some (.int .i64 D) := HB.out.b0.cell 1
  have i2 : W0.cell? ⟨w.heap.size, 2, none⟩ = some (.int .i64 N) := HB.out.b0.cell 2
  have i3 : W0.cell? ⟨w.heap.size, 3, none⟩ = some (.int .i64 M) := HB.out.b0.cell 3
  have i4 : W0.cell? ⟨w.heap.size, 4, none⟩ = some (.int .i64 i) := HB.out.b0.cell 4
  have sM := HB.out.b1.reg M hM
  go_wp2_with fail
  go_ret2
  exact ⟨rfl, HB.out.low⟩
set_option maxRecDepth 100000 in
set_option maxHeartbeats 2000000 in
theorem opr7 (D N M : Nat) (hN : N < 8) (hM : M < 8) (i : Int) (s : S) (w : World) : Calls Tryd.prog 70 #[.agg (iC 7 D N M i), sv s] w fun e w' => e = .returned (.tuple #[u (s.r N), u (s.r M)]) ∧ Below w.heap.size w w' := by
  have hw := wrap_ofInt i
  generalize BitVec.ofInt 32 i = imm at *
  have N2 : (N : Int) < 8 := by omega
  have M2 : (M : Int) < 8 := by omega
  have HB := Lib.hid (h2_new w 7 D N M i s)
  go_enter Tryd.func70, Tryd.ntmps70
  go_upto_region 1 with fail
  generalize ((w.alloc (.cells #[.int .i64 7, .int .i64 D, .int .i64 N, .int .i64 M, .int .i64 i] 58)).alloc (.cells (sC s) 51)) = W0 at *
  have i0 : W0.cell? ⟨w.heap.size, 0, none⟩ = some (.int .i64 7) := HB.out.b0.cell 0
  have i1 : W0.cell? ⟨w.heap.size, 1, none⟩ = some (.int .i64 D) := HB.out.b0.cell 1
  have i2 : W0.cell? ⟨w.heap.size, 2, none⟩ = some (.int .i64 N) := HB.out.b0.cell 2
  have i3 : W0.cell? ⟨w.heap.size, 3, none⟩ = some (.int .i64 M) := HB.out.b0.cell 3
  have i4 : W0.cell? ⟨w.heap.size, 4, none⟩ = some (.int .i64 i) := HB.out.b0.cell 4
  have sN := HB.out.b1.reg N hN
  have sM := HB.out.b1.reg M hM
  go_wp2_with fail
  go_quiet (fail)
  go_wp2_with fail
  go_ret2
  exact ⟨rfl, below_drewN HB.out.low _⟩
set_option maxRecDepth 100000 in
set_option maxHeartbeats 2000000 in
theorem opr8 (D N M : Nat) (hN : N < 8) (hM : M < 8) (i : Int) (s : S) (w : World) : Calls Tryd.prog 70 #[.agg (iC 8 D N M i), sv s] w fun e w' => e = .returned (.tuple #[u (s.r N), u (s.r M)]) ∧ Below w.heap.size w w' := by
  have hw := wrap_ofInt i
  generalize BitVec.ofInt 32 i = imm at *
  have N2 : (N : Int) < 8 := by omega
  have M2 : (M : Int) < 8 := by omega
  have HB := Lib.hid (h2_new w 8 D N M i s)
  go_enter Tryd.func70, Tryd.ntmps70
  go_upto_region 1 with fail
  generalize ((w.alloc (.cells #[.int .i64 8, .int .i64 D, .int .i64 N, .int .i64 M, .int .i64 i] 58)).alloc (.cells (sC s) 51)) = W0 at *
  have i0 : W0.cell? ⟨w.heap.size, 0, none⟩ = some (.int .i64 8) := HB.out.b0.cell 0
  have i1 : W0.cell? ⟨w.heap.size, 1, none⟩ = some (.int .i64 D) := HB.out.b0.cell 1
  have i2 : W0.cell? ⟨w.heap.size, 2, none⟩ = some (.int .i64 N) := HB.out.b0.cell 2
  have i3 : W0.cell? ⟨w.heap.size, 3, none⟩ = some (.int .i64 M) := HB.out.b0.cell 3
  have i4 : W0.cell? ⟨w.heap.size, 4, none⟩ = some (.int .i64 i) := HB.out.b0.cell 4
  have sN := HB.out.b1.reg N hN
  have sM := HB.out.b1.reg M hM
  go_wp2_with fail
  go_quiet (fail)
  go_wp2_with fail
  go_ret2
  exact ⟨rfl, below_drewN HB.out.low _⟩
set_option maxRecDepth 100000 in
set_option maxHeartbeats 2000000 in
theorem opr9 (D N M : Nat) (hN : N < 8) (i : Int) (s : S) (w : World) : Calls Tryd.prog 70 #[.agg (iC 9 D N M i), sv s] w fun e w' => e = .returned (.tuple #[u (s.r N), u (BitVec.ofInt 32 i)]) ∧ Below w.heap.size w w' := by
  have hw := wrap_ofInt i
  generalize BitVec.ofInt 32 i = imm at *
  have N2 : (N : Int) < 8 := by omega
  have HB := Lib.hid (h2_new w 9 D N M i s)
  go_enter Tryd.func70, Tryd.ntmps70
  go_upto_region 1 with fail
  generalize ((w.alloc (.cells #[.int .i64 9, .int .i64 D, .int .i64 N, .int .i64 M, .int .i64 i] 58)).alloc (.cells (sC s) 51)) = W0 at *
  have i0 : W0.cell? ⟨w.heap.size, 0, none⟩ = some (.int .i64 9) := HB.out.b0.cell 0
  have i1 : W0.cell? ⟨w.heap.size, 1, none⟩ = some (.int .i64 D) := HB.out.b0.cell 1
  have i2 : W0.cell? ⟨w.heap.size, 2, none⟩ = some (.int .i64 N) := HB.out.b0.cell 2
  have i3 : W0.cell? ⟨w.heap.size, 3, none⟩ = some (.int .i64 M) := HB.out.b0.cell 3
  have i4 : W0.cell? ⟨w.heap.size, 4, none⟩ = some (.int .i64 i) := HB.out.b0.cell 4
  have sN := HB.out.b1.reg N hN
  go_wp2_with fail
  go_ret2
  exact ⟨rfl, HB.out.low⟩
set_option maxRecDepth 100000 in
set_option maxHeartbeats 2000000 in
theorem opr10 (D N M : Nat) (hN : N < 8) (i : Int) (s : S) (w : World) : Calls Tryd.prog 70 #[.agg (iC 10 D N M i), sv s] w fun e w' => e = .returned (.tuple #[u (s.r N), u (BitVec.ofInt 32 i)]) ∧ Below w.heap.size w w' := by
  have hw := wrap_ofInt i
  generalize BitVec.ofInt 32 i = imm at *
  have N2 : (N : Int) < 8 := by omega
  have HB := Lib.hid (h2_new w 10 D N M i s)
  go_enter Tryd.func70, Tryd.ntmps70
  go_upto_region 1 with fail
  generalize ((w.alloc (.cells #[.int .i64 10, .int .i64 D, .int .i64 N, .int .i64 M, .int .i64 i] 58)).alloc (.cells (sC s) 51)) = W0 at *
  have i0 : W0.cell? ⟨w.heap.size, 0, none⟩ = some (.int .i64 10) := HB.out.b0.cell 0
  have i1 : W0.cell? ⟨w.heap.size, 1, none⟩ = some (.int .i64 D) := HB.out.b0.cell 1
  have i2 : W0.cell? ⟨w.heap.size, 2, none⟩ = some (.int .i64 N) := HB.out.b0.cell 2
  have i3 : W0.cell? ⟨w.heap.size, 3, none⟩ = some (.int .i64 M) := HB.out.b0.cell 3
  have i4 : W0.cell? ⟨w.heap.size, 4, none⟩ = some (.int .i64 i) := HB.out.b0.cell 4
  have sN := HB.out.b1.reg N hN
  go_wp2_with fail
  go_ret2
  exact ⟨rfl, HB.out.low⟩
set_option maxRecDepth 100000 in
set_option maxHeartbeats 2000000 in
theorem opr11 (D N M : Nat) (hD : D < 8) (hM : M < 8) (i : Int) (s : S) (w : World) : Calls Tryd.prog 70 #[.agg (iC 11 D N M i), sv s] w fun e w' => e = .returned (.tuple #[u (s.r D), u (s.r M)]) ∧ Below w.heap.size w w' := by
  have hw := wrap_ofInt i
  generalize BitVec.ofInt 32 i = imm at *
  have D2 : (D : Int) < 8 := by omega
  have M2 : (M : Int) < 8 := by omega
  have HB := Lib.hid (h2_new w 11 D N M i s)
  go_enter Tryd.func70, Tryd.ntmps70
  go_upto_region 1 with fail
  generalize ((w.alloc (.cells #[.int .i64 11, .int .i64 D, .int .i64 N, .int .i64 M, .int .i64 i] 58)).alloc (.cells (sC s) 51)) = W0 at *
  have i0 : W0.cell? ⟨w.heap.size, 0, none⟩ = some (.int .i64 11) := HB.out.b0.cell 0
  have i1 : W0.cell? ⟨w.heap.size, 1, none⟩ = some (.int .i64 D) := HB.out.b0.cell 1
  have i2 : W0.cell? ⟨w.heap.size, 2, none⟩ = some (.int .i64 N) := HB.out.b0.cell 2
  have i3 : W0.cell? ⟨w.heap.size, 3, none⟩ = some (.int .i64 M) := HB.out.b0.cell 3
  have i4 : W0.cell? ⟨w.heap.size, 4, none⟩ = some (.int .i64 i) := HB.out.b0.cell 4
  have sD := HB.out.b1.reg D hD
  have sM := HB.out.b1.reg M hM
  go_wp2_with fail
  go_quiet (fail)
  go_wp2_with fail
  go_ret2
  exact ⟨rfl, below_drewN HB.out.low _⟩
set_option maxRecDepth 100000 in
set_option maxHeartbeats 2000000 in
theorem opr12 (D N M : Nat) (hN : N < 8) (i : Int) (s : S) (w : World) : Calls Tryd.prog 70 #[.agg (iC 12 D N M i), sv s] w fun e w' => e = .returned (.tuple #[u (s.r N), u (4#32 * BitVec.ofInt 32 i)]) ∧ Below w.heap.size w w' := by
  have hw := wrap_ofInt i
  have h2 := four_w (BitVec.ofInt 32 i)
  generalize BitVec.ofInt 32 i = imm at *
  generalize 4#32 * imm = i4' at *
  have g2 : IntKind.u32.wrap (4 * (imm.toNat : Int)) = (i4'.toNat : Int) := by rw [IntKind.wrap_u32]; exact h2
  clear h2
  have N2 : (N : Int) < 8 := by omega
  have HB := Lib.hid (h2_new w 12 D N M i s)
  go_enter Tryd.func70, Tryd.ntmps70
  go_upto_region 1 with fail
  generalize ((w.alloc (.cells #[.int .i64 12, .int .i64 D, .int .i64 N, .int .i64 M, .int .i64 i] 58)).alloc (.cells (sC s) 51)) = W0 at *
  have i0 : W0.cell? ⟨w.heap.size, 0, none⟩ = some (.int .i64 12) := HB.out.b0.cell 0
  have i1 : W0.cell? ⟨w.heap.size, 1, none⟩ = some (.int .i64 D) := HB.out.b0.cell 1
  have i2 : W0.cell? ⟨w.heap.size, 2, none⟩ = some (.int .i64 N) := HB.out.b0.cell 2
  have i3 : W0.cell? ⟨w.heap.size, 3, none⟩ = some (.int .i64 M) := HB.out.b0.cell 3
  have i4 : W0.cell? ⟨w.heap.size, 4, none⟩ = some (.int .i64 i) := HB.out.b0.cell 4
  have sN := HB.out.b1.reg N hN
  go_wp2_with fail
  go_ret2
  exact ⟨rfl, HB.out.low⟩
set_option maxRecDepth 100000 in
set_option maxHeartbeats 2000000 in
theorem opr13 (D N M : Nat) (hD : D < 8) (i : Int) (s : S) (w : World) : Calls Tryd.prog 70 #[.agg (iC 13 D N M i), sv s] w fun e w' => e = .returned (.tuple #[u (s.r D), u (0#32)]) ∧ Below w.heap.size w w' := by
  have hw := wrap_ofInt i
  generalize BitVec.ofInt 32 i = imm at *
  have D2 : (D : Int) < 8 := by omega
  have HB := Lib.hid (h2_new w 13 D N M i s)
  go_enter Tryd.func70, Tryd.ntmps70
  go_upto_region 1 with fail
  generalize ((w.alloc (.cells #[.int .i64 13, .int .i64 D, .int .i64 N, .int .i64 M, .int .i64 i] 58)).alloc (.cells (sC s) 51)) = W0 at *
  have i0 : W0.cell? ⟨w.heap.size, 0, none⟩ = some (.int .i64 13) := HB.out.b0.cell 0
  have i1 : W0.cell? ⟨w.heap.size, 1, none⟩ = some (.int .i64 D) := HB.out.b0.cell 1
  have i2 : W0.cell? ⟨w.heap.size, 2, none⟩ = some (.int .i64 N) := HB.out.b0.cell 2
  have i3 : W0.cell? ⟨w.heap.size, 3, none⟩ = some (.int .i64 M) := HB.out.b0.cell 3
  have i4 : W0.cell? ⟨w.heap.size, 4, none⟩ = some (.int .i64 i) := HB.out.b0.cell 4
  have sD := HB.out.b1.reg D hD
  go_wp2_with fail
  go_ret2
  exact ⟨rfl, HB.out.low⟩
set_option maxRecDepth 100000 in
set_option maxHeartbeats 2000000 in
theorem opr14 (D N M : Nat) (hN : N < 8) (hM : M < 8) (i : Int) (s : S) (w : World) : Calls Tryd.prog 70 #[.agg (iC 14 D N M i), sv s] w fun e w' => e = .returned (.tuple #[u (s.r N), u (s.r M)]) ∧ Below w.heap.size w w' := by
  have hw := wrap_ofInt i
  generalize BitVec.ofInt 32 i = imm at *
  have N2 : (N : Int) < 8 := by omega
  have M2 : (M : Int) < 8 := by omega
  have HB := Lib.hid (h2_new w 14 D N M i s)
  go_enter Tryd.func70, Tryd.ntmps70
  go_upto_region 1 with fail
  generalize ((w.alloc (.cells #[.int .i64 14, .int .i64 D, .int .i64 N, .int .i64 M, .int .i64 i] 58)).alloc (.cells (sC s) 51)) = W0 at *
  have i0 : W0.cell? ⟨w.heap.size, 0, none⟩ = some (.int .i64 14) := HB.out.b0.cell 0
  have i1 : W0.cell? ⟨w.heap.size, 1, none⟩ = some (.int .i64 D) := HB.out.b0.cell 1
  have i2 : W0.cell? ⟨w.heap.size, 2, none⟩ = some (.int .i64 N) := HB.out.b0.cell 2
  have i3 : W0.cell? ⟨w.heap.size, 3, none⟩ = some (.int .i64 M) := HB.out.b0.cell 3
  have i4 : W0.cell? ⟨w.heap.size, 4, none⟩ = some (.int .i64 i) := HB.out.b0.cell 4
  have sN := HB.out.b1.reg N hN
  have sM := HB.out.b1.reg M hM
  go_wp2_with fail
  go_quiet (fail)
  go_wp2_with fail
  go_ret2
  exact ⟨rfl, below_drewN HB.out.low _⟩
set_option maxRecDepth 100000 in
set_option maxHeartbeats 2000000 in
theorem opr15 (D N M : Nat) (hD : D < 8) (i : Int) (s : S) (w : World) : Calls Tryd.prog 70 #[.agg (iC 15 D N M i), sv s] w fun e w' => e = .returned (.tuple #[u (s.r D), u (0#32)]) ∧ Below w.heap.size w w' := by
  have hw := wrap_ofInt i
  generalize BitVec.ofInt 32 i = imm at *
  have D2 : (D : Int) < 8 := by omega
  have HB := Lib.hid (h2_new w 15 D N M i s)
  go_enter Tryd.func70, Tryd.ntmps70
  go_upto_region 1 with fail
  generalize ((w.alloc (.cells #[.int .i64 15, .int .i64 D, .int .i64 N, .int .i64 M, .int .i64 i] 58)).alloc (.cells (sC s) 51)) = W0 at *
  have i0 : W0.cell? ⟨w.heap.size, 0, none⟩ = some (.int .i64 15) := HB.out.b0.cell 0
  have i1 : W0.cell? ⟨w.heap.size, 1, none⟩ = some (.int .i64 D) := HB.out.b0.cell 1
  have i2 : W0.cell? ⟨w.heap.size, 2, none⟩ = some (.int .i64 N) := HB.out.b0.cell 2
  have i3 : W0.cell? ⟨w.heap.size, 3, none⟩ = some (.int .i64 M) := HB.out.b0.cell 3
  have i4 : W0.cell? ⟨w.heap.size, 4, none⟩ = some (.int .i64 i) := HB.out.b0.cell 4
  have sD := HB.out.b1.reg D hD
  go_wp2_with fail
  go_ret2
  exact ⟨rfl, HB.out.low⟩
set_option maxRecDepth 100000 in
set_option maxHeartbeats 2000000 in
theorem oprno (k D N M : Nat) (hk : 16 ≤ k) (i : Int) (s : S) (w : World) : Calls Tryd.prog 70 #[.agg (iC k D N M i), sv s] w fun e w' => e = .returned (.tuple #[u 0#32, u 0#32]) ∧ Below w.heap.size w w' := by
  have e0 : ((k : Int) == 0) = false := by simp; omega
  have e1 : ((k : Int) == 1) = false := by simp; omega
  have e2 : ((k : Int) == 2) = false := by simp; omega
  have e3 : ((k : Int) == 3) = false := by simp; omega
  have e4 : ((k : Int) == 4) = false := by simp; omega
  have e5 : ((k : Int) == 5) = false := by simp; omega
  have e6 : ((k : Int) == 6) = false := by simp; omega
  have e7 : ((k : Int) == 7) = false := by simp; omega
  have e8 : ((k : Int) == 8) = false := by simp; omega
  have e14 : ((k : Int) == 14) = false := by simp; omega
  have e9 : ((k : Int) == 9) = false := by simp; omega
  have e10 : ((k : Int) == 10) = false := by simp; omega
  have e11 : ((k : Int) == 11) = false := by simp; omega
  have e12 : ((k : Int) == 12) = false := by simp; omega
  have e13 : ((k : Int) == 13) = false := by simp; omega
  have e15 : ((k : Int) == 15) = false := by simp; omega
  have hw := wrap_ofInt i
  generalize BitVec.ofInt 32 i = imm at *
  clear hk
  have HB := Lib.hid (h2_new w k D N M i s)
  go_enter Tryd.func70, Tryd.ntmps70
  go_upto_region 1 with fail
  generalize ((w.alloc (.cells #[.int .i64 k, .int .i64 D, .int .i64 N, .int .i64 M, .int .i64 i] 58)).alloc (.cells (sC s) 51)) = W0 at *
  have i0 : W0.cell? ⟨w.heap.size, 0, none⟩ = some (.int .i64 k) := HB.out.b0.cell 0
  have i1 : W0.cell? ⟨w.heap.size, 1, none⟩ = some (.int .i64 D) := HB.out.b0.cell 1
  have i2 : W0.cell? ⟨w.heap.size, 2, none⟩ = some (.int .i64 N) := HB.out.b0.cell 2
  have i3 : W0.cell? ⟨w.heap.size, 3, none⟩ = some (.int .i64 M) := HB.out.b0.cell 3
  have i4 : W0.cell? ⟨w.heap.size, 4, none⟩ = some (.int .i64 i) := HB.out.b0.cell 4
  go_wp2_with fail
  go_ret2
  exact ⟨rfl, HB.out.low⟩
theorem operands (op D N M : Nat) (i : Int) (hw : Wi op D N M i) (s : S) (w : World) : Calls Tryd.prog 70 #[.agg (iC op D N M i), sv s] w fun e w' => e = .returned (.tuple #[u (opA op D N M s), u (opB op D N M (BitVec.ofInt 32 i) s)]) ∧ Below w.heap.size w w' := by
  have hlt := hw.lt
  have hr : op = 0 ∨ op = 1 ∨ op = 2 ∨ op = 3 ∨ op = 4 ∨ op = 5 ∨ op = 6 ∨ op = 7 ∨ op = 8 ∨ op = 9 ∨ op = 10 ∨ op = 11 ∨ op = 12 ∨ op = 13 ∨ op = 14 ∨ op = 15 ∨ op = 16 ∨ op = 17 ∨ op = 18 ∨ op = 19 ∨ op = 20 := by omega
  clear hlt
  rcases hr with rfl | rfl | rfl | rfl | rfl | rfl | rfl | rfl | rfl | rfl | rfl | rfl | rfl | rfl | rfl | rfl | rfl | rfl | rfl | rfl | rfl
  · exact opr0 D N M  i s w
  · exact opr1 D N M (hw.d8 (by decide)) i s w
  · exact opr2 D N M (hw.d8 (by decide)) i s w
  · exact opr3 D N M (hw.d8 (by decide)) i s w
  · exact opr4 D N M hw.m8 i s w
  · exact opr5 D N M hw.m8 i s w
  · exact opr6 D N M hw.m8 i s w
  · exact opr7 D N M hw.n8 hw.m8 i s w
  · exact opr8 D N M hw.n8 hw.m8 i s w
  · exact opr9 D N M hw.n8 i s w
  · exact opr10 D N M hw.n8 i s w
  · exact opr11 D N M (hw.d8 (by decide)) hw.m8 i s w
  · exact opr12 D N M hw.n8 i s w
  · exact opr13 D N M (hw.d8 (by decide)) i s w
  · exact opr14 D N M hw.n8 hw.m8 i s w
  · exact opr15 D N M (hw.d8 (by decide)) i s w
  · exact oprno 16 D N M (by decide) i s w
  · exact oprno 17 D N M (by decide) i s w
  · exact oprno 18 D N M (by decide) i s w
  · exact oprno 19 D N M (by decide) i s w
  · exact oprno 20 D N M (by decide) i s w
set_option maxRecDepth 100000 in
set_option maxHeartbeats 2000000 in
theorem adrno (k D N M : Nat) (hk : k < 12 ∨ 16 < k) (i : Int) (s : S) (w : World) : Calls Tryd.prog 60 #[.agg (iC k D N M i), sv s] w fun e w' => e = .returned (.tuple #[u 0#32, .bool false]) ∧ Below w.heap.size w w' := by
  have e12 : ((k : Int) == 12) = false := by simp; omega
  have e13 : ((k : Int) == 13) = false := by simp; omega
  have e14 : ((k : Int) == 14) = false := by simp; omega
  have e15 : ((k : Int) == 15) = false := by simp; omega
  have e16 : ((k : Int) == 16) = false := by simp; omega
  clear hk
  have HB := Lib.hid (h2_new w k D N M i s)
  go_enter Tryd.func60, Tryd.ntmps60
  go_upto_region 1 with fail
  generalize ((w.alloc (.cells #[.int .i64 k, .int .i64 D, .int .i64 N, .int .i64 M, .int .i64 i] 58)).alloc (.cells (sC s) 51)) = W0 at *
  have i0 : W0.cell? ⟨w.heap.size, 0, none⟩ = some (.int .i64 k) := HB.out.b0.cell 0
  have i1 : W0.cell? ⟨w.heap.size, 1, none⟩ = some (.int .i64 D) := HB.out.b0.cell 1
  have i2 : W0.cell? ⟨w.heap.size, 2, none⟩ = some (.int .i64 N) := HB.out.b0.cell 2
  have i3 : W0.cell? ⟨w.heap.size, 3, none⟩ = some (.int .i64 M) := HB.out.b0.cell 3
  have i4 : W0.cell? ⟨w.heap.size, 4, none⟩ = some (.int .i64 i) := HB.out.b0.cell 4
  go_wp2_with fail
  go_ret2
  exact ⟨rfl, HB.out.low⟩
set_option maxRecDepth 100000 in
set_option maxHeartbeats 2000000 in
theorem adr12 (D N M : Nat) (hN : N < 8) (i : Int) (s : S) (w : World) : Calls Tryd.prog 60 #[.agg (iC 12 D N M i), sv s] w fun e w' => e = .returned (.tuple #[u (addrV 12 N M (BitVec.ofInt 32 i) s), .bool true]) ∧ Below w.heap.size w w' := by
  rw [show addrV 12 N M (BitVec.ofInt 32 i) s = s.r N + 4#32 * BitVec.ofInt 32 i from rfl]
  have hw := wrap_ofInt i
  have h2 := four_w (BitVec.ofInt 32 i)
  have h3 := add_w (s.r N) (4#32 * BitVec.ofInt 32 i)
  generalize BitVec.ofInt 32 i = imm at *
  generalize 4#32 * imm = i4' at *
  generalize s.r N + i4' = rr at *
  have g2 : IntKind.u32.wrap (4 * (imm.toNat : Int)) = (i4'.toNat : Int) := by rw [IntKind.wrap_u32]; exact h2
  have g3 : IntKind.u32.wrap (((s.r N).toNat : Int) + (i4'.toNat : Int)) = (rr.toNat : Int) := by rw [IntKind.wrap_u32]; exact h3
  clear h2 h3
  have N2 : (N : Int) < 8 := by omega
  have HB := Lib.hid (h2_new w 12 D N M i s)
  go_enter Tryd.func60, Tryd.ntmps60
  go_upto_region 1 with fail
  generalize ((w.alloc (.cells #[.int .i64 12, .int .i64 D, .int .i64 N, .int .i64 M, .int .i64 i] 58)).alloc (.cells (sC s) 51)) = W0 at *
  have i0 : W0.cell? ⟨w.heap.size, 0, none⟩ = some (.int .i64 12) := HB.out.b0.cell 0
  have i1 : W0.cell? ⟨w.heap.size, 1, none⟩ = some (.int .i64 D) := HB.out.b0.cell 1
  have i2 : W0.cell? ⟨w.heap.size, 2, none⟩ = some (.int .i64 N) := HB.out.b0.cell 2
  have i3 : W0.cell? ⟨w.heap.size, 3, none⟩ = some (.int .i64 M) := HB.out.b0.cell 3
  have i4 : W0.cell? ⟨w.heap.size, 4, none⟩ = some (.int .i64 i) := HB.out.b0.cell 4
  have sN := HB.out.b1.reg N hN
  go_wp2_with fail
  go_quiet (fail)
  go_wp2_with fail
  go_ret2
  exact ⟨rfl, below_drewN HB.out.low _⟩
set_option maxRecDepth 100000 in
set_option maxHeartbeats 2000000 in
theorem adr13 (D N M : Nat) (hN : N < 8) (i : Int) (s : S) (w : World) : Calls Tryd.prog 60 #[.agg (iC 13 D N M i), sv s] w fun e w' => e = .returned (.tuple #[u (addrV 13 N M (BitVec.ofInt 32 i) s), .bool true]) ∧ Below w.heap.size w w' := by
  rw [show addrV 13 N M (BitVec.ofInt 32 i) s = s.r N + 4#32 * BitVec.ofInt 32 i from rfl]
  have hw := wrap_ofInt i
  have h2 := four_w (BitVec.ofInt 32 i)
  have h3 := add_w (s.r N) (4#32 * BitVec.ofInt 32 i)
  generalize BitVec.ofInt 32 i = imm at *
  generalize 4#32 * imm = i4' at *
  generalize s.r N + i4' = rr at *
  have g2 : IntKind.u32.wrap (4 * (imm.toNat : Int)) = (i4'.toNat : Int) := by rw [IntKind.wrap_u32]; exact h2
  have g3 : IntKind.u32.wrap (((s.r N).toNat : Int) + (i4'.toNat : Int)) = (rr.toNat : Int) := by rw [IntKind.wrap_u32]; exact h3
  clear h2 h3
  have N2 : (N : Int) < 8 := by omega
  have HB := Lib.hid (h2_new w 13 D N M i s)
  go_enter Tryd.func60, Tryd.ntmps60
  go_upto_region 1 with fail
  generalize ((w.alloc (.cells #[.int .i64 13, .int .i64 D, .int .i64 N, .int .i64 M, .int .i64 i] 58)).alloc (.cells (sC s) 51)) = W0 at *
  have i0 : W0.cell? ⟨w.heap.size, 0, none⟩ = some (.int .i64 13) := HB.out.b0.cell 0
  have i1 : W0.cell? ⟨w.heap.size, 1, none⟩ = some (.int .i64 D) := HB.out.b0.cell 1
  have i2 : W0.cell? ⟨w.heap.size, 2, none⟩ = some (.int .i64 N) := HB.out.b0.cell 2
  have i3 : W0.cell? ⟨w.heap.size, 3, none⟩ = some (.int .i64 M) := HB.out.b0.cell 3
  have i4 : W0.cell? ⟨w.heap.size, 4, none⟩ = some (.int .i64 i) := HB.out.b0.cell 4
  have sN := HB.out.b1.reg N hN
  go_wp2_with fail
  go_quiet (fail)
  go_wp2_with fail
  go_ret2
  exact ⟨rfl, below_drewN HB.out.low _⟩
set_option maxRecDepth 100000 in
set_option maxHeartbeats 2000000 in
theorem adr14 (D N M : Nat) (hN : N < 8) (hM : M < 8) (i : Int) (s : S) (w : World) : Calls Tryd.prog 60 #[.agg (iC 14 D N M i), sv s] w fun e w' => e = .returned (.tuple #[u (addrV 14 N M (BitVec.ofInt 32 i) s), .bool true]) ∧ Below w.heap.size w w' := by
  rw [show addrV 14 N M (BitVec.ofInt 32 i) s = s.r N + s.r M from rfl]
  have h3 := add_w (s.r N) (s.r M)
  generalize s.r N + s.r M = rr at *
  have g3 : IntKind.u32.wrap (((s.r N).toNat : Int) + ((s.r M).toNat : Int)) = (rr.toNat : Int) := by rw [IntKind.wrap_u32]; exact h3
  clear h3
  have N2 : (N : Int) < 8 := by omega
  have M2 : (M : Int) < 8 := by omega
  have HB := Lib.hid (h2_new w 14 D N M i s)
  go_enter Tryd.func60, Tryd.ntmps60
  go_upto_region 1 with fail
  generalize ((w.alloc (.cells #[.int .i64 14, .int .i64 D, .int .i64 N, .int .i64 M, .int .i64 i] 58)).alloc (.cells (sC s) 51)) = W0 at *
  have i0 : W0.cell? ⟨w.heap.size, 0, none⟩ = some (.int .i64 14) := HB.out.b0.cell 0
  have i1 : W0.cell? ⟨w.heap.size, 1, none⟩ = some (.int .i64 D) := HB.out.b0.cell 1
  have i2 : W0.cell? ⟨w.heap.size, 2, none⟩ = some (.int .i64 N) := HB.out.b0.cell 2
  have i3 : W0.cell? ⟨w.heap.size, 3, none⟩ = some (.int .i64 M) := HB.out.b0.cell 3
  have i4 : W0.cell? ⟨w.heap.size, 4, none⟩ = some (.int .i64 i) := HB.out.b0.cell 4
  have sN := HB.out.b1.reg N hN
  have sM := HB.out.b1.reg M hM
  go_wp2_with fail
  go_quiet (fail)
  go_wp2_with fail
  go_ret2
  exact ⟨rfl, below_drewN HB.out.low _⟩
set_option maxRecDepth 100000 in
set_option maxHeartbeats 2000000 in
theorem adr15 (D N M : Nat) (hN : N < 8) (hM : M < 8) (i : Int) (s : S) (w : World) : Calls Tryd.prog 60 #[.agg (iC 15 D N M i), sv s] w fun e w' => e = .returned (.tuple #[u (addrV 15 N M (BitVec.ofInt 32 i) s), .bool true]) ∧ Below w.heap.size w w' := by
  rw [show addrV 15 N M (BitVec.ofInt 32 i) s = s.r N + s.r M from rfl]
  have h3 := add_w (s.r N) (s.r M)
  generalize s.r N + s.r M = rr at *
  have g3 : IntKind.u32.wrap (((s.r N).toNat : Int) + ((s.r M).toNat : Int)) = (rr.toNat : Int) := by rw [IntKind.wrap_u32]; exact h3
  clear h3
  have N2 : (N : Int) < 8 := by omega
  have M2 : (M : Int) < 8 := by omega
  have HB := Lib.hid (h2_new w 15 D N M i s)
  go_enter Tryd.func60, Tryd.ntmps60
  go_upto_region 1 with fail
  generalize ((w.alloc (.cells #[.int .i64 15, .int .i64 D, .int .i64 N, .int .i64 M, .int .i64 i] 58)).alloc (.cells (sC s) 51)) = W0 at *
  have i0 : W0.cell? ⟨w.heap.size, 0, none⟩ = some (.int .i64 15) := HB.out.b0.cell 0
  have i1 : W0.cell? ⟨w.heap.size, 1, none⟩ = some (.int .i64 D) := HB.out.b0.cell 1
  have i2 : W0.cell? ⟨w.heap.size, 2, none⟩ = some (.int .i64 N) := HB.out.b0.cell 2
  have i3 : W0.cell? ⟨w.heap.size, 3, none⟩ = some (.int .i64 M) := HB.out.b0.cell 3
  have i4 : W0.cell? ⟨w.heap.size, 4, none⟩ = some (.int .i64 i) := HB.out.b0.cell 4
  have sN := HB.out.b1.reg N hN
  have sM := HB.out.b1.reg M hM
  go_wp2_with fail
  go_quiet (fail)
  go_wp2_with fail
  go_ret2
  exact ⟨rfl, below_drewN HB.out.low _⟩
set_option maxRecDepth 100000 in
set_option maxHeartbeats 2000000 in
theorem adr16 (D N M : Nat)  (i : Int) (s : S) (w : World) : Calls Tryd.prog 60 #[.agg (iC 16 D N M i), sv s] w fun e w' => e = .returned (.tuple #[u (addrV 16 N M (BitVec.ofInt 32 i) s), .bool true]) ∧ Below w.heap.size w w' := by
  rw [show addrV 16 N M (BitVec.ofInt 32 i) s = ((s.pc + 4#32) &&& ~~~3#32) + 4#32 * BitVec.ofInt 32 i from rfl]
  have hw := wrap_ofInt i
  have hpc := bd s.pc
  have h1 := pc4 s.pc
  have h2 := four_w (BitVec.ofInt 32 i)
  have h4 := not3 (s.pc + 4#32)
  have h3 := add_w ((s.pc + 4#32) &&& ~~~3#32) (4#32 * BitVec.ofInt 32 i)
  generalize BitVec.ofInt 32 i = imm at *
  generalize s.pc + 4#32 = p4 at *
  generalize p4 &&& ~~~3#32 = q4 at *
  generalize 4#32 * imm = i2' at *
  generalize q4 + i2' = rr at *
  have g1 : IntKind.u32.wrap ((s.pc.toNat : Int) + 4) = (p4.toNat : Int) := by rw [IntKind.wrap_u32]; exact h1
  have g2 : IntKind.u32.wrap (4 * (imm.toNat : Int)) = (i2'.toNat : Int) := by rw [IntKind.wrap_u32]; exact h2
  have g3 : IntKind.u32.wrap ((q4.toNat : Int) + (i2'.toNat : Int)) = (rr.toNat : Int) := by rw [IntKind.wrap_u32]; exact h3
  have HB := Lib.hid (h2_new w 16 D N M i s)
  go_enter Tryd.func60, Tryd.ntmps60
  go_upto_region 1 with fail
  generalize ((w.alloc (.cells #[.int .i64 16, .int .i64 D, .int .i64 N, .int .i64 M, .int .i64 i] 58)).alloc (.cells (sC s) 51)) = W0 at *
  have i0 : W0.cell? ⟨w.heap.size, 0, none⟩ = some (.int .i64 16) := HB.out.b0.cell 0
  have i1 : W0.cell? ⟨w.heap.size, 1, none⟩ = some (.int .i64 D) := HB.out.b0.cell 1
  have i2 : W0.cell? ⟨w.heap.size, 2, none⟩ = some (.int .i64 N) := HB.out.b0.cell 2
  have i3 : W0.cell? ⟨w.heap.size, 3, none⟩ = some (.int .i64 M) := HB.out.b0.cell 3
  have i4 : W0.cell? ⟨w.heap.size, 4, none⟩ = some (.int .i64 i) := HB.out.b0.cell 4
  have sp : W0.cell? ⟨w.heap.size + 1, 8, none⟩ = some (u s.pc) := HB.out.b1.cell 8
  go_wp2_with fail
  go_ret2
  exact ⟨rfl, HB.out.low⟩
theorem address (op D N M : Nat) (i : Int) (hw : Wi op D N M i) (s : S) (w : World) : Calls Tryd.prog 60 #[.agg (iC op D N M i), sv s] w fun e w' => e = .returned (.tuple #[u (adV op N M (BitVec.ofInt 32 i) s), .bool (meB op)]) ∧ Below w.heap.size w w' := by
  have hlt := hw.lt
  have hr : op = 0 ∨ op = 1 ∨ op = 2 ∨ op = 3 ∨ op = 4 ∨ op = 5 ∨ op = 6 ∨ op = 7 ∨ op = 8 ∨ op = 9 ∨ op = 10 ∨ op = 11 ∨ op = 12 ∨ op = 13 ∨ op = 14 ∨ op = 15 ∨ op = 16 ∨ op = 17 ∨ op = 18 ∨ op = 19 ∨ op = 20 := by omega
  clear hlt
  rcases hr with rfl | rfl | rfl | rfl | rfl | rfl | rfl | rfl | rfl | rfl | rfl | rfl | rfl | rfl | rfl | rfl | rfl | rfl | rfl | rfl | rfl
  · exact adrno 0 D N M (by decide) i s w
  · exact adrno 1 D N M (by decide) i s w
  · exact adrno 2 D N M (by decide) i s w
  · exact adrno 3 D N M (by decide) i s w
  · exact adrno 4 D N M (by decide) i s w
  · exact adrno 5 D N M (by decide) i s w
  · exact adrno 6 D N M (by decide) i s w
  · exact adrno 7 D N M (by decide) i s w
  · exact adrno 8 D N M (by decide) i s w
  · exact adrno 9 D N M (by decide) i s w
  · exact adrno 10 D N M (by decide) i s w
  · exact adrno 11 D N M (by decide) i s w
  · exact adr12 D N M hw.n8 i s w
  · exact adr13 D N M hw.n8 i s w
  · exact adr14 D N M hw.n8 hw.m8 i s w
  · exact adr15 D N M hw.n8 hw.m8 i s w
  · exact adr16 D N M  i s w
  · exact adrno 17 D N M (by decide) i s w
  · exact adrno 18 D N M (by decide) i s w
  · exact adrno 19 D N M (by decide) i s w
  · exact adrno 20 D N M (by decide) i s w
/-- Words of a leak. -/
abbrev wC (a b r o bus : BitVec 32) : Array Value := #[u a, u b, u r, u o, u bus]
structure H3 (w : World) (op D N M : Nat) (i : Int) (cs : Array Value) (W : World) : Prop where
  b0 : Blk W w.heap.size 58 (iC op D N M i)
  b1 : Blk W (w.heap.size + 1) 99 cs
  low : Below w.heap.size w W
theorem h3_new (w : World) (op D N M : Nat) (i : Int) (cs : Array Value) : H3 w op D N M i cs ((w.alloc (.cells (iC op D N M i) 58)).alloc (.cells cs 99)) := by
  have hb1 := Blk.new (w.alloc (.cells (iC op D N M i) 58)) 99 cs
  have hb0 := (Blk.new w 58 (iC op D N M i)).alloc (.cells cs 99)
  simp only [World.size_alloc] at hb1
  exact ⟨hb0, hb1, ((Below.refl _ _).alloc (Nat.le_refl _) _).alloc (by simp) _⟩
set_option maxRecDepth 100000 in
set_option maxHeartbeats 2000000 in
theorem uns1 (D N M : Nat) (i : Int) (a b r o bus : BitVec 32) (w : World) : Calls Tryd.prog 72 #[.agg (iC 1 D N M i), .agg (wC a b r o bus)] w fun e w' => e = .returned (u (a - b)) ∧ Below w.heap.size w w' := by
  have b1 := bd a; have b2 := bd b
  have h3 := sub_w a b
  generalize a - b = rr at *
  have g3 : IntKind.u32.wrap ((a.toNat : Int) - (b.toNat : Int)) = (rr.toNat : Int) := by rw [IntKind.wrap_u32]; exact h3
  clear h3
  have HB := Lib.hid (h3_new w 1 D N M i (wC a b r o bus))
  go_enter Tryd.func72, Tryd.ntmps72
  go_upto_region 1 with fail
  generalize ((w.alloc (.cells #[.int .i64 1, .int .i64 D, .int .i64 N, .int .i64 M, .int .i64 i] 58)).alloc (.cells (wC a b r o bus) 99)) = W0 at *
  have i0 : W0.cell? ⟨w.heap.size, 0, none⟩ = some (.int .i64 1) := HB.out.b0.cell 0
  have i4 : W0.cell? ⟨w.heap.size, 4, none⟩ = some (.int .i64 i) := HB.out.b0.cell 4
  have s0 : W0.cell? ⟨w.heap.size + 1, 0, none⟩ = some (u a) := HB.out.b1.cell 0
  have s1 : W0.cell? ⟨w.heap.size + 1, 1, none⟩ = some (u b) := HB.out.b1.cell 1
  go_wp2_with fail
  go_ret
  exact ⟨rfl, HB.out.low⟩
set_option maxRecDepth 100000 in
set_option maxHeartbeats 2000000 in
theorem uns13 (D N M : Nat) (i : Int) (a b r o bus : BitVec 32) (w : World) : Calls Tryd.prog 72 #[.agg (iC 13 D N M i), .agg (wC a b r o bus)] w fun e w' => e = .returned (u (a)) ∧ Below w.heap.size w w' := by
  have b1 := bd a; have b2 := bd b
  have HB := Lib.hid (h3_new w 13 D N M i (wC a b r o bus))
  go_enter Tryd.func72, Tryd.ntmps72
  go_upto_region 1 with fail
  generalize ((w.alloc (.cells #[.int .i64 13, .int .i64 D, .int .i64 N, .int .i64 M, .int .i64 i] 58)).alloc (.cells (wC a b r o bus) 99)) = W0 at *
  have i0 : W0.cell? ⟨w.heap.size, 0, none⟩ = some (.int .i64 13) := HB.out.b0.cell 0
  have i4 : W0.cell? ⟨w.heap.size, 4, none⟩ = some (.int .i64 i) := HB.out.b0.cell 4
  have s0 : W0.cell? ⟨w.heap.size + 1, 0, none⟩ = some (u a) := HB.out.b1.cell 0
  have s1 : W0.cell? ⟨w.heap.size + 1, 1, none⟩ = some (u b) := HB.out.b1.cell 1
  go_wp2_with fail
  go_ret
  exact ⟨rfl, HB.out.low⟩
set_option maxRecDepth 100000 in
set_option maxHeartbeats 2000000 in
theorem uns15 (D N M : Nat) (i : Int) (a b r o bus : BitVec 32) (w : World) : Calls Tryd.prog 72 #[.agg (iC 15 D N M i), .agg (wC a b r o bus)] w fun e w' => e = .returned (u (a)) ∧ Below w.heap.size w w' := by
  have b1 := bd a; have b2 := bd b
  have HB := Lib.hid (h3_new w 15 D N M i (wC a b r o bus))
  go_enter Tryd.func72, Tryd.ntmps72
  go_upto_region 1 with fail
  generalize ((w.alloc (.cells #[.int .i64 15, .int .i64 D, .int .i64 N, .int .i64 M, .int .i64 i] 58)).alloc (.cells (wC a b r o bus) 99)) = W0 at *
  have i0 : W0.cell? ⟨w.heap.size, 0, none⟩ = some (.int .i64 15) := HB.out.b0.cell 0
  have i4 : W0.cell? ⟨w.heap.size, 4, none⟩ = some (.int .i64 i) := HB.out.b0.cell 4
  have s0 : W0.cell? ⟨w.heap.size + 1, 0, none⟩ = some (u a) := HB.out.b1.cell 0
  have s1 : W0.cell? ⟨w.heap.size + 1, 1, none⟩ = some (u b) := HB.out.b1.cell 1
  go_wp2_with fail
  go_ret
  exact ⟨rfl, HB.out.low⟩
set_option maxRecDepth 100000 in
set_option maxHeartbeats 2000000 in
theorem uns11_8 (D N M : Nat) (a b r o bus : BitVec 32) (w : World) : Calls Tryd.prog 72 #[.agg (iC 11 D N M 8), .agg (wC a b r o bus)] w fun e w' => e = .returned (u (a &&& b)) ∧ Below w.heap.size w w' := by
  have b1 := bd a; have b2 := bd b
  have g3 := b_and a b
  generalize a &&& b = rr at *
  have HB := Lib.hid (h3_new w 11 D N M 8 (wC a b r o bus))
  go_enter Tryd.func72, Tryd.ntmps72
  go_upto_region 1 with fail
  generalize ((w.alloc (.cells #[.int .i64 11, .int .i64 D, .int .i64 N, .int .i64 M, .int .i64 8] 58)).alloc (.cells (wC a b r o bus) 99)) = W0 at *
  have i0 : W0.cell? ⟨w.heap.size, 0, none⟩ = some (.int .i64 11) := HB.out.b0.cell 0
  have i4 : W0.cell? ⟨w.heap.size, 4, none⟩ = some (.int .i64 8) := HB.out.b0.cell 4
  have s0 : W0.cell? ⟨w.heap.size + 1, 0, none⟩ = some (u a) := HB.out.b1.cell 0
  have s1 : W0.cell? ⟨w.heap.size + 1, 1, none⟩ = some (u b) := HB.out.b1.cell 1
  go_wp2_with fail
  go_ret
  exact ⟨rfl, HB.out.low⟩
set_option maxRecDepth 100000 in
set_option maxHeartbeats 2000000 in
theorem uns11_10 (D N M : Nat) (a b r o bus : BitVec 32) (w : World) : Calls Tryd.prog 72 #[.agg (iC 11 D N M 10), .agg (wC a b r o bus)] w fun e w' => e = .returned (u (a - b)) ∧ Below w.heap.size w w' := by
  have b1 := bd a; have b2 := bd b
  have h3 := sub_w a b
  generalize a - b = rr at *
  have g3 : IntKind.u32.wrap ((a.toNat : Int) - (b.toNat : Int)) = (rr.toNat : Int) := by rw [IntKind.wrap_u32]; exact h3
  clear h3
  have HB := Lib.hid (h3_new w 11 D N M 10 (wC a b r o bus))
  go_enter Tryd.func72, Tryd.ntmps72
  go_upto_region 1 with fail
  generalize ((w.alloc (.cells #[.int .i64 11, .int .i64 D, .int .i64 N, .int .i64 M, .int .i64 10] 58)).alloc (.cells (wC a b r o bus) 99)) = W0 at *
  have i0 : W0.cell? ⟨w.heap.size, 0, none⟩ = some (.int .i64 11) := HB.out.b0.cell 0
  have i4 : W0.cell? ⟨w.heap.size, 4, none⟩ = some (.int .i64 10) := HB.out.b0.cell 4
  have s0 : W0.cell? ⟨w.heap.size + 1, 0, none⟩ = some (u a) := HB.out.b1.cell 0
  have s1 : W0.cell? ⟨w.heap.size + 1, 1, none⟩ = some (u b) := HB.out.b1.cell 1
  go_wp2_with fail
  go_ret
  exact ⟨rfl, HB.out.low⟩
set_option maxRecDepth 100000 in
set_option maxHeartbeats 2000000 in
theorem uns11_11 (D N M : Nat) (a b r o bus : BitVec 32) (w : World) : Calls Tryd.prog 72 #[.agg (iC 11 D N M 11), .agg (wC a b r o bus)] w fun e w' => e = .returned (u (a + b)) ∧ Below w.heap.size w w' := by
  have b1 := bd a; have b2 := bd b
  have h3 := add_w a b
  generalize a + b = rr at *
  have g3 : IntKind.u32.wrap ((a.toNat : Int) + (b.toNat : Int)) = (rr.toNat : Int) := by rw [IntKind.wrap_u32]; exact h3
  clear h3
  have HB := Lib.hid (h3_new w 11 D N M 11 (wC a b r o bus))
  go_enter Tryd.func72, Tryd.ntmps72
  go_upto_region 1 with fail
  generalize ((w.alloc (.cells #[.int .i64 11, .int .i64 D, .int .i64 N, .int .i64 M, .int .i64 11] 58)).alloc (.cells (wC a b r o bus) 99)) = W0 at *
  have i0 : W0.cell? ⟨w.heap.size, 0, none⟩ = some (.int .i64 11) := HB.out.b0.cell 0
  have i4 : W0.cell? ⟨w.heap.size, 4, none⟩ = some (.int .i64 11) := HB.out.b0.cell 4
  have s0 : W0.cell? ⟨w.heap.size + 1, 0, none⟩ = some (u a) := HB.out.b1.cell 0
  have s1 : W0.cell? ⟨w.heap.size + 1, 1, none⟩ = some (u b) := HB.out.b1.cell 1
  go_wp2_with fail
  go_ret
  exact ⟨rfl, HB.out.low⟩
set_option maxRecDepth 100000 in
set_option maxHeartbeats 2000000 in
theorem unsno (k D N M : Nat) (hk : 16 < k) (i : Int) (a b r o bus : BitVec 32) (w : World) : Calls Tryd.prog 72 #[.agg (iC k D N M i), .agg (wC a b r o bus)] w fun e w' => e = .returned (u (0#32)) ∧ Below w.heap.size w w' := by
  have e1 : ((k : Int) == 1) = false := by simp; omega
  have e13 : ((k : Int) == 13) = false := by simp; omega
  have e15 : ((k : Int) == 15) = false := by simp; omega
  have e11 : ((k : Int) == 11) = false := by simp; omega
  have HB := Lib.hid (h3_new w k D N M i (wC a b r o bus))
  clear hk
  go_enter Tryd.func72, Tryd.ntmps72
  go_upto_region 1 with fail
  generalize ((w.alloc (.cells #[.int .i64 k, .int .i64 D, .int .i64 N, .int .i64 M, .int .i64 i] 58)).alloc (.cells (wC a b r o bus) 99)) = W0 at *
  have i0 : W0.cell? ⟨w.heap.size, 0, none⟩ = some (.int .i64 k) := HB.out.b0.cell 0
  have i4 : W0.cell? ⟨w.heap.size, 4, none⟩ = some (.int .i64 i) := HB.out.b0.cell 4
  go_wp2_with fail
  go_ret
  exact ⟨rfl, HB.out.low⟩
theorem unset (op D N M : Nat) (i : Int) (hw : Wi op D N M i) (hs : ThRef.setsB op i = false) (a b r o bus : BitVec 32) (w : World) : Calls Tryd.prog 72 #[.agg (iC op D N M i), .agg (wC a b r o bus)] w fun e w' => e = .returned (u (unS op i a b)) ∧ Below w.heap.size w w' := by
  have hlt := hw.lt
  have hr : op = 1 ∨ op = 13 ∨ op = 15 ∨ (op = 11 ∧ (i = 8 ∨ i = 10 ∨ i = 11)) ∨ op = 17 ∨ op = 18 ∨ op = 19 ∨ op = 20 := by
    unfold ThRef.setsB at hs
    simp at hs
    omega
  clear hlt
  rcases hr with rfl | rfl | rfl | ⟨rfl, rfl | rfl | rfl⟩ | rfl | rfl | rfl | rfl
  · exact uns1 D N M i a b r o bus w
  · exact uns13 D N M i a b r o bus w
  · exact uns15 D N M i a b r o bus w
  · exact uns11_8 D N M a b r o bus w
  · exact uns11_10 D N M a b r o bus w
  · exact uns11_11 D N M a b r o bus w
  · exact unsno 17 D N M (by decide) i a b r o bus w
  · exact unsno 18 D N M (by decide) i a b r o bus w
  · exact unsno 19 D N M (by decide) i a b r o bus w
  · exact unsno 20 D N M (by decide) i a b r o bus w
end Go.Proofs.YtkafmpdjpjgkgaaDoor.Lk
/- DERIVED. The contracts of the program's handled, leaked and onBus. By an AI agent. -/
namespace Go.Proofs.YtkafmpdjpjgkgaaDoor.Lk
open Go.ChangeShapes Go.WideShapes Go.ChangeAt Go.RowKit WMath Word Args Mm Co
set_option linter.unusedVariables false
set_option linter.unusedSimpArgs false
theorem onBus (n0 : Nat) (h : Hd) (m : St) (w : World) (p : PP n0 h m w) : Calls Tryd.prog 56 #[ptr h.r] w fun e w' => e = .returned (.int .u32 m.b) ∧ w = w' := by
  have HP := Lib.hid p
  clear p
  go_enter Tryd.func56, Tryd.ntmps56
  go_wp2_with fail
  refine (bus _ h _ _ HP.out).mono ?_
  rintro e w' ⟨rfl, rfl⟩
  go_wp2_with fail
  go_ret
  exact ⟨rfl, rfl⟩
set_option maxRecDepth 100000 in
set_option maxHeartbeats 2000000 in
theorem leaked (a b r o bus : BitVec 32) (w : World) : Calls Tryd.prog 58 #[.agg (wC a b r o bus)] w fun e w' => e = .returned (lv ⟨0, 0, a, b, r, o, bus, 0, false, false⟩) ∧ Below w.heap.size w w' := by
  go_enter Tryd.func58, Tryd.ntmps58
  go_wp2_with fail
  refine bodyPost_ret (v := lv ⟨0, 0, a, b, r, o, bus, 0, false, false⟩) (by simp [results, Tryd.results58, go_sem]) rfl ⟨rfl, ?_⟩
  exact (by repeat (first | exact Below.refl _ _ | (with_reducible refine Below.setCell ?_ (by simp) _) | (with_reducible refine Below.alloc ?_ (by simp) _) | (with_reducible refine Below.drew ?_)))
/-- The boxes of handled: the instruction, both states, the result, the words. -/
structure Hh (w : World) (op D N M : Nat) (i : Int) (s nx : S) (cs : Array Value) (W : World) : Prop where
  b0 : Blk W w.heap.size 58 (iC op D N M i)
  b1 : Blk W (w.heap.size + 1) 51 (sC s)
  b2 : Blk W (w.heap.size + 1 + 1) 51 (sC nx)
  b3 : Blk W (w.heap.size + 1 + 1 + 1) 99 (wC 0#32 0#32 0#32 0#32 0#32)
  b4 : Blk W (w.heap.size + 1 + 1 + 1 + 1) 99 cs
  low : Below w.heap.size w W
section
variable {w W W' : World} {op D N M : Nat} {i : Int} {s nx : S} {cs cs' : Array Value}
theorem Hh.below (h : Hh w op D N M i s nx cs W) (hb : Below W.heap.size W W') : Hh w op D N M i s nx cs W' :=
  ⟨h.b0.below hb h.b0.lt, h.b1.below hb h.b1.lt, h.b2.below hb h.b2.lt, h.b3.below hb h.b3.lt, h.b4.below hb h.b4.lt, h.low.trans (hb.mono h.low.size)⟩
theorem Hh.drew (h : Hh w op D N M i s nx cs W) : Hh w op D N M i s nx cs W.drew := ⟨h.b0, h.b1, h.b2, h.b3, h.b4, h.low.drew⟩
theorem Hh.set (h : Hh w op D N M i s nx cs W) (j : Nat) (v : Value) (hc : cs.setIfInBounds j v = cs') : Hh w op D N M i s nx cs' (W.setCell ⟨w.heap.size + 1 + 1 + 1 + 1, j, none⟩ v) :=
  have hu := upd_set W (w.heap.size + 1 + 1 + 1 + 1) j v (Upd.refl _ W)
  ⟨h.b0.upd hu (by omega), h.b1.upd hu (by omega), h.b2.upd hu (by omega), h.b3.upd hu (by omega), blk_one h.b4 j v hc, upd_low h.low hu (by omega)⟩
end
theorem hh_new (w : World) (op D N M : Nat) (i : Int) (s nx : S) (cs : Array Value) : Hh w op D N M i s nx cs (((((w.alloc (.cells (iC op D N M i) 58)).alloc (.cells (sC s) 51)).alloc (.cells (sC nx) 51)).alloc (.cells (wC 0#32 0#32 0#32 0#32 0#32) 99)).alloc (.cells cs 99)) := by
  have h0 := Blk.new w 58 (iC op D N M i)
  have h1 := Blk.new (w.alloc (.cells (iC op D N M i) 58)) 51 (sC s)
  have h2 := Blk.new ((w.alloc (.cells (iC op D N M i) 58)).alloc (.cells (sC s) 51)) 51 (sC nx)
  have h3 := Blk.new (((w.alloc (.cells (iC op D N M i) 58)).alloc (.cells (sC s) 51)).alloc (.cells (sC nx) 51)) 99 (wC 0#32 0#32 0#32 0#32 0#32)
  have h4 := Blk.new ((((w.alloc (.cells (iC op D N M i) 58)).alloc (.cells (sC s) 51)).alloc (.cells (sC nx) 51)).alloc (.cells (wC 0#32 0#32 0#32 0#32 0#32) 99)) 99 cs
  simp only [World.size_alloc] at h1 h2 h3 h4
  exact ⟨(((h0.alloc _).alloc _).alloc _).alloc _, ((h1.alloc _).alloc _).alloc _, (h2.alloc _).alloc _, h3.alloc _, h4, ((((((Below.refl _ _).alloc (Nat.le_refl _) _).alloc (by simp) _).alloc (by simp; omega) _).alloc (by simp; omega) _).alloc (by simp; omega) _)⟩
theorem sets_lt {op : Nat} {i : Int} (h : ThRef.setsB op i = true) : op ≠ 18 := by rintro rfl; cases h
theorem blk5 {w : World} {g : Nat} {t : TypeId} {a b r o c : BitVec 32} {x0 x1 x2 x3 x4 : Value} (h : Blk w g t #[x0, x1, x2, x3, x4]) :
    Blk (((((w.setCell ⟨g, 0, none⟩ (u a)).setCell ⟨g, 1, none⟩ (u b)).setCell ⟨g, 2, none⟩ (u r)).setCell ⟨g, 3, none⟩ (u o)).setCell ⟨g, 4, none⟩ (u c)) g t (wC a b r o c) ∧ Upd (· = g) w (((((w.setCell ⟨g, 0, none⟩ (u a)).setCell ⟨g, 1, none⟩ (u b)).setCell ⟨g, 2, none⟩ (u r)).setCell ⟨g, 3, none⟩ (u o)).setCell ⟨g, 4, none⟩ (u c)) := by
  have h0 := blk_one (cs' := #[u a, x1, x2, x3, x4]) h 0 (u a) rfl
  have h1 := blk_one (cs' := #[u a, u b, x2, x3, x4]) h0 1 (u b) rfl
  have h2 := blk_one (cs' := #[u a, u b, u r, x3, x4]) h1 2 (u r) rfl
  have h3 := blk_one (cs' := #[u a, u b, u r, u o, x4]) h2 3 (u o) rfl
  have h4 := blk_one (cs' := #[u a, u b, u r, u o, u c]) h3 4 (u c) rfl
  exact ⟨h4, upd_set _ _ _ _ (upd_set _ _ _ _ (upd_set _ _ _ _ (upd_set _ _ _ _ (upd_set _ _ _ _ (Upd.refl _ w)))))⟩
set_option maxRecDepth 100000 in
set_option maxHeartbeats 4000000 in
theorem handY (op D N M : Nat) (i : Int) (hw : Wi op D N M i) (hs : ThRef.setsB op i = true) (s nx : S) (bus : BitVec 32) (w : World) (hT : Tp.Tb w) :
    Calls Tryd.prog 59 #[.agg (iC op D N M i), sv s, sv nx, u bus] w fun e w' => e = .returned (.agg (wC (opA op D N M s) (opB op D N M (BitVec.ofInt 32 i) s) (nx.r D) (s.r D) bus)) ∧ Below w.heap.size w w' := by
  have hO := fun W => operands op D N M i hw s W
  have hW := fun W h => Tp.writes op D N M i W h
  have hwr : ThRef.wrV op D N M i = .tuple #[.int .i64 D, .bool true] := by unfold ThRef.wrV; rw [hw.can, hs]; rfl
  rw [hwr] at hW
  have hD := hw.d8 (sets_lt hs)
  have hD2 : (D : Int) < 8 := by omega
  generalize opA op D N M s = a at *
  generalize opB op D N M (BitVec.ofInt 32 i) s = b at *
  have HO := Lib.hid hO; have HW := Lib.hid hW; have HT := Lib.hid hT
  clear hO hW hwr hT hw hs
  have HB := Lib.hid (hh_new w op D N M i s nx (wC 0#32 0#32 0#32 0#32 bus))
  go_enter Tryd.func59, Tryd.ntmps59
  go_upto_region 2 with fail
  obtain ⟨W0, hW0⟩ : ∃ W0, W0 = (((((w.alloc (.cells (iC op D N M i) 58)).alloc (.cells (sC s) 51)).alloc (.cells (sC nx) 51)).alloc (.cells (wC 0#32 0#32 0#32 0#32 0#32) 99)).alloc (.cells (wC 0#32 0#32 0#32 0#32 bus) 99)) := ⟨_, rfl⟩
  rw [← hW0] at HB
  have hW0' : W0 = (((((w.alloc (.cells (iC op D N M i) 58)).alloc (.cells (sC s) 51)).alloc (.cells (sC nx) 51)).alloc (.cells #[.int .u32 0, .int .u32 0, .int .u32 0, .int .u32 0, .int .u32 0] 99)).alloc (.cells #[.int .u32 0, .int .u32 0, .int .u32 0, .int .u32 0, u bus] 99)) := hW0
  rw [← hW0']
  clear hW0 hW0'
  have i0 := HB.out.b0.cell 0; have i1 := HB.out.b0.cell 1; have i2 := HB.out.b0.cell 2; have i3 := HB.out.b0.cell 3; have i4 := HB.out.b0.cell 4
  obtain ⟨n0, n1, n2, n3, n4, n5, n6, n7, n8, n9, n10, n11, n12⟩ := Blk.cells13 HB.out.b1
  go_wp2_with fail
  refine (HO.out _).mono ?_
  rintro e w1 ⟨rfl, hb⟩
  have HB1 := Lib.hid (HB.out.below hb)
  clear i0 i1 i2 i3 i4 n0 n1 n2 n3 n4 n5 n6 n7 n8 n9 n10 n11 n12 hb HB HO
  have y0 : w1.cell? ⟨w.heap.size + 1 + 1 + 1 + 1, 0, none⟩ = some (u 0#32) := HB1.out.b4.cell 0
  have y1 : w1.cell? ⟨w.heap.size + 1 + 1 + 1 + 1, 1, none⟩ = some (u 0#32) := HB1.out.b4.cell 1
  have f0 := HB1.out.b4.frozen 0; have f1 := HB1.out.b4.frozen 1
  go_upto_region 3 with fail
  have HB2 := Lib.hid ((HB1.out.set 0 (u a) (cs' := #[u a, u 0#32, u 0#32, u 0#32, u bus]) rfl).set 1 (u b) (cs' := wC a b 0#32 0#32 bus) rfl)
  obtain ⟨w2, hw2⟩ : ∃ w2, (w1.setCell ⟨w.heap.size + 1 + 1 + 1 + 1, 0, none⟩ (u a)).setCell ⟨w.heap.size + 1 + 1 + 1 + 1, 1, none⟩ (u b) = w2 := ⟨_, rfl⟩
  rw [hw2] at HB2
  rw [hw2]
  clear hw2 HB1 y0 y1 f0 f1
  have i0 := HB2.out.b0.cell 0; have i1 := HB2.out.b0.cell 1; have i2 := HB2.out.b0.cell 2; have i3 := HB2.out.b0.cell 3; have i4 := HB2.out.b0.cell 4
  simp at i0 i1 i2 i3 i4
  go_wp2_with fail
  refine (HW.out _ (HT.out.below HB2.out.low)).mono ?_
  rintro e w3 ⟨rfl, hb⟩
  have HB3 := Lib.hid (HB2.out.below hb)
  clear i0 i1 i2 i3 i4 hb HB2 HW HT
  have xn := HB3.out.b2.reg D hD
  have xs := HB3.out.b1.reg D hD
  have y2 : w3.cell? ⟨w.heap.size + 1 + 1 + 1 + 1, 2, none⟩ = some (u 0#32) := HB3.out.b4.cell 2
  have y3 : w3.cell? ⟨w.heap.size + 1 + 1 + 1 + 1, 3, none⟩ = some (u 0#32) := HB3.out.b4.cell 3
  have f2 := HB3.out.b4.frozen 2; have f3 := HB3.out.b4.frozen 3
  go_upto_region 5 with fail
  go_region
  have HB4 := Lib.hid (((HB3.out.set 2 (u (nx.r D)) (cs' := wC a b (nx.r D) 0#32 bus) rfl).set 3 (u (s.r D)) (cs' := wC a b (nx.r D) (s.r D) bus) rfl).drew)
  obtain ⟨w4, hw4⟩ : ∃ w4, ((w3.setCell ⟨w.heap.size + 1 + 1 + 1 + 1, 2, none⟩ (u (nx.r D))).setCell ⟨w.heap.size + 1 + 1 + 1 + 1, 3, none⟩ (u (s.r D))).drew = w4 := ⟨_, rfl⟩
  rw [hw4] at HB4
  rw [hw4]
  clear hw4 HB3 xn xs y2 y3 f2 f3

  have y0 : w4.cell? ⟨w.heap.size + 1 + 1 + 1 + 1, 0, none⟩ = some (u a) := HB4.out.b4.cell 0
  have y1 : w4.cell? ⟨w.heap.size + 1 + 1 + 1 + 1, 1, none⟩ = some (u b) := HB4.out.b4.cell 1
  have y2 : w4.cell? ⟨w.heap.size + 1 + 1 + 1 + 1, 2, none⟩ = some (u (nx.r D)) := HB4.out.b4.cell 2
  have y3 : w4.cell? ⟨w.heap.size + 1 + 1 + 1 + 1, 3, none⟩ = some (u (s.r D)) := HB4.out.b4.cell 3
  have y4 : w4.cell? ⟨w.heap.size + 1 + 1 + 1 + 1, 4, none⟩ = some (u bus) := HB4.out.b4.cell 4
  have z0 : w4.cell? ⟨w.heap.size + 1 + 1 + 1, 0, none⟩ = some (u 0#32) := HB4.out.b3.cell 0
  have z1 : w4.cell? ⟨w.heap.size + 1 + 1 + 1, 1, none⟩ = some (u 0#32) := HB4.out.b3.cell 1
  have z2 : w4.cell? ⟨w.heap.size + 1 + 1 + 1, 2, none⟩ = some (u 0#32) := HB4.out.b3.cell 2
  have z3 : w4.cell? ⟨w.heap.size + 1 + 1 + 1, 3, none⟩ = some (u 0#32) := HB4.out.b3.cell 3
  have z4 : w4.cell? ⟨w.heap.size + 1 + 1 + 1, 4, none⟩ = some (u 0#32) := HB4.out.b3.cell 4
  have f0 := HB4.out.b3.frozen 0; have f1 := HB4.out.b3.frozen 1; have f2 := HB4.out.b3.frozen 2; have f3 := HB4.out.b3.frozen 3; have f4 := HB4.out.b3.frozen 4
  go_wp2_with fail
  obtain ⟨hB, hU⟩ := blk5 (a := a) (b := b) (r := nx.r D) (o := s.r D) (c := bus) HB4.out.b3
  have HL := Lib.hid (upd_low HB4.out.low hU (by omega))
  clear y0 y1 y2 y3 y4 z0 z1 z2 z3 z4 f0 f1 f2 f3 f4
  generalize (((((w4.setCell ⟨w.heap.size + 1 + 1 + 1, 0, none⟩ (u a)).setCell ⟨w.heap.size + 1 + 1 + 1, 1, none⟩ (u b)).setCell ⟨w.heap.size + 1 + 1 + 1, 2, none⟩ (u (nx.r D))).setCell ⟨w.heap.size + 1 + 1 + 1, 3, none⟩ (u (s.r D))).setCell ⟨w.heap.size + 1 + 1 + 1, 4, none⟩ (u bus)) = WW at *
  have r0 : WW.cell? ⟨w.heap.size + 1 + 1 + 1, 0, none⟩ = some (u a) := hB.cell 0
  have r1 : WW.cell? ⟨w.heap.size + 1 + 1 + 1, 1, none⟩ = some (u b) := hB.cell 1
  have r2 : WW.cell? ⟨w.heap.size + 1 + 1 + 1, 2, none⟩ = some (u (nx.r D)) := hB.cell 2
  have r3 : WW.cell? ⟨w.heap.size + 1 + 1 + 1, 3, none⟩ = some (u (s.r D)) := hB.cell 3
  have r4 : WW.cell? ⟨w.heap.size + 1 + 1 + 1, 4, none⟩ = some (u bus) := hB.cell 4
  exact bodyPost_ret (v := .agg (wC a b (nx.r D) (s.r D) bus)) (by simp [results, Tryd.results59, go_sem, r0, r1, r2, r3, r4]) rfl ⟨rfl, HL.out⟩
set_option maxRecDepth 100000 in
set_option maxHeartbeats 4000000 in
theorem handN (op D N M : Nat) (i : Int) (hw : Wi op D N M i) (hs : ThRef.setsB op i = false) (s nx : S) (bus : BitVec 32) (w : World) (hT : Tp.Tb w) :
    Calls Tryd.prog 59 #[.agg (iC op D N M i), sv s, sv nx, u bus] w fun e w' => e = .returned (.agg (wC (opA op D N M s) (opB op D N M (BitVec.ofInt 32 i) s) (unS op i (opA op D N M s) (opB op D N M (BitVec.ofInt 32 i) s)) 0#32 bus)) ∧ Below w.heap.size w w' := by
  have hO := fun W => operands op D N M i hw s W
  have hW := fun W h => Tp.writes op D N M i W h
  have hwr : ThRef.wrV op D N M i = .tuple #[.int .i64 0, .bool false] := by unfold ThRef.wrV; rw [hw.can, hs]; rfl
  rw [hwr] at hW
  have hU := fun W => unset op D N M i hw hs (opA op D N M s) (opB op D N M (BitVec.ofInt 32 i) s) 0#32 0#32 bus W
  generalize opA op D N M s = a at *
  generalize opB op D N M (BitVec.ofInt 32 i) s = b at *
  generalize unS op i a b = r' at *
  have HU := Lib.hid hU; have HO := Lib.hid hO; have HW := Lib.hid hW; have HT := Lib.hid hT
  clear hU hO hW hwr hT hw hs
  have HB := Lib.hid (hh_new w op D N M i s nx (wC 0#32 0#32 0#32 0#32 bus))
  go_enter Tryd.func59, Tryd.ntmps59
  go_upto_region 2 with fail
  obtain ⟨W0, hW0⟩ : ∃ W0, W0 = (((((w.alloc (.cells (iC op D N M i) 58)).alloc (.cells (sC s) 51)).alloc (.cells (sC nx) 51)).alloc (.cells (wC 0#32 0#32 0#32 0#32 0#32) 99)).alloc (.cells (wC 0#32 0#32 0#32 0#32 bus) 99)) := ⟨_, rfl⟩
  rw [← hW0] at HB
  have hW0' : W0 = (((((w.alloc (.cells (iC op D N M i) 58)).alloc (.cells (sC s) 51)).alloc (.cells (sC nx) 51)).alloc (.cells #[.int .u32 0, .int .u32 0, .int .u32 0, .int .u32 0, .int .u32 0] 99)).alloc (.cells #[.int .u32 0, .int .u32 0, .int .u32 0, .int .u32 0, u bus] 99)) := hW0
  rw [← hW0']
  clear hW0 hW0'
  have i0 := HB.out.b0.cell 0; have i1 := HB.out.b0.cell 1; have i2 := HB.out.b0.cell 2; have i3 := HB.out.b0.cell 3; have i4 := HB.out.b0.cell 4
  obtain ⟨n0, n1, n2, n3, n4, n5, n6, n7, n8, n9, n10, n11, n12⟩ := Blk.cells13 HB.out.b1
  go_wp2_with fail
  refine (HO.out _).mono ?_
  rintro e w1 ⟨rfl, hb⟩
  have HB1 := Lib.hid (HB.out.below hb)
  clear i0 i1 i2 i3 i4 n0 n1 n2 n3 n4 n5 n6 n7 n8 n9 n10 n11 n12 hb HB HO
  have y0 : w1.cell? ⟨w.heap.size + 1 + 1 + 1 + 1, 0, none⟩ = some (u 0#32) := HB1.out.b4.cell 0
  have y1 : w1.cell? ⟨w.heap.size + 1 + 1 + 1 + 1, 1, none⟩ = some (u 0#32) := HB1.out.b4.cell 1
  have f0 := HB1.out.b4.frozen 0; have f1 := HB1.out.b4.frozen 1
  go_upto_region 3 with fail
  have HB2 := Lib.hid ((HB1.out.set 0 (u a) (cs' := #[u a, u 0#32, u 0#32, u 0#32, u bus]) rfl).set 1 (u b) (cs' := wC a b 0#32 0#32 bus) rfl)
  obtain ⟨w2, hw2⟩ : ∃ w2, (w1.setCell ⟨w.heap.size + 1 + 1 + 1 + 1, 0, none⟩ (u a)).setCell ⟨w.heap.size + 1 + 1 + 1 + 1, 1, none⟩ (u b) = w2 := ⟨_, rfl⟩
  rw [hw2] at HB2
  rw [hw2]
  clear hw2 HB1 y0 y1 f0 f1
  have i0 := HB2.out.b0.cell 0; have i1 := HB2.out.b0.cell 1; have i2 := HB2.out.b0.cell 2; have i3 := HB2.out.b0.cell 3; have i4 := HB2.out.b0.cell 4
  simp at i0 i1 i2 i3 i4
  go_wp2_with fail
  refine (HW.out _ (HT.out.below HB2.out.low)).mono ?_
  rintro e w3 ⟨rfl, hb⟩
  have HB3 := Lib.hid (HB2.out.below hb)
  clear i0 i1 i2 i3 i4 hb HB2 HW HT
  have i0 := HB3.out.b0.cell 0; have i1 := HB3.out.b0.cell 1; have i2 := HB3.out.b0.cell 2; have i3 := HB3.out.b0.cell 3; have i4 := HB3.out.b0.cell 4
  have y0 : w3.cell? ⟨w.heap.size + 1 + 1 + 1 + 1, 0, none⟩ = some (u a) := HB3.out.b4.cell 0
  have y1 : w3.cell? ⟨w.heap.size + 1 + 1 + 1 + 1, 1, none⟩ = some (u b) := HB3.out.b4.cell 1
  have y2 : w3.cell? ⟨w.heap.size + 1 + 1 + 1 + 1, 2, none⟩ = some (u 0#32) := HB3.out.b4.cell 2
  have y3 : w3.cell? ⟨w.heap.size + 1 + 1 + 1 + 1, 3, none⟩ = some (u 0#32) := HB3.out.b4.cell 3
  have y4 : w3.cell? ⟨w.heap.size + 1 + 1 + 1 + 1, 4, none⟩ = some (u bus) := HB3.out.b4.cell 4
  go_wp2_with fail
  refine (HU.out _).mono ?_
  rintro e w3' ⟨rfl, hb⟩
  have HB3' := Lib.hid (HB3.out.below hb)
  clear i0 i1 i2 i3 i4 y0 y1 y2 y3 y4 hb HB3 HU
  have y2 : w3'.cell? ⟨w.heap.size + 1 + 1 + 1 + 1, 2, none⟩ = some (u 0#32) := HB3'.out.b4.cell 2
  have f2 := HB3'.out.b4.frozen 2
  go_upto_region 7 with fail
  have HB4 := Lib.hid (HB3'.out.set 2 (u r') (cs' := wC a b r' 0#32 bus) rfl)
  obtain ⟨w4, hw4⟩ : ∃ w4, (w3'.setCell ⟨w.heap.size + 1 + 1 + 1 + 1, 2, none⟩ (u r')) = w4 := ⟨_, rfl⟩
  rw [hw4] at HB4
  rw [hw4]
  clear hw4 HB3' y2 f2

  have y0 : w4.cell? ⟨w.heap.size + 1 + 1 + 1 + 1, 0, none⟩ = some (u a) := HB4.out.b4.cell 0
  have y1 : w4.cell? ⟨w.heap.size + 1 + 1 + 1 + 1, 1, none⟩ = some (u b) := HB4.out.b4.cell 1
  have y2 : w4.cell? ⟨w.heap.size + 1 + 1 + 1 + 1, 2, none⟩ = some (u r') := HB4.out.b4.cell 2
  have y3 : w4.cell? ⟨w.heap.size + 1 + 1 + 1 + 1, 3, none⟩ = some (u 0#32) := HB4.out.b4.cell 3
  have y4 : w4.cell? ⟨w.heap.size + 1 + 1 + 1 + 1, 4, none⟩ = some (u bus) := HB4.out.b4.cell 4
  have z0 : w4.cell? ⟨w.heap.size + 1 + 1 + 1, 0, none⟩ = some (u 0#32) := HB4.out.b3.cell 0
  have z1 : w4.cell? ⟨w.heap.size + 1 + 1 + 1, 1, none⟩ = some (u 0#32) := HB4.out.b3.cell 1
  have z2 : w4.cell? ⟨w.heap.size + 1 + 1 + 1, 2, none⟩ = some (u 0#32) := HB4.out.b3.cell 2
  have z3 : w4.cell? ⟨w.heap.size + 1 + 1 + 1, 3, none⟩ = some (u 0#32) := HB4.out.b3.cell 3
  have z4 : w4.cell? ⟨w.heap.size + 1 + 1 + 1, 4, none⟩ = some (u 0#32) := HB4.out.b3.cell 4
  have f0 := HB4.out.b3.frozen 0; have f1 := HB4.out.b3.frozen 1; have f2 := HB4.out.b3.frozen 2; have f3 := HB4.out.b3.frozen 3; have f4 := HB4.out.b3.frozen 4
  go_wp2_with fail
  obtain ⟨hB, hU⟩ := blk5 (a := a) (b := b) (r := r') (o := 0#32) (c := bus) HB4.out.b3
  have HL := Lib.hid (upd_low HB4.out.low hU (by omega))
  clear y0 y1 y2 y3 y4 z0 z1 z2 z3 z4 f0 f1 f2 f3 f4
  obtain ⟨WW, hWW⟩ : ∃ WW, (((((w4.setCell ⟨w.heap.size + 1 + 1 + 1, 0, none⟩ (u a)).setCell ⟨w.heap.size + 1 + 1 + 1, 1, none⟩ (u b)).setCell ⟨w.heap.size + 1 + 1 + 1, 2, none⟩ (u r')).setCell ⟨w.heap.size + 1 + 1 + 1, 3, none⟩ (u 0#32)).setCell ⟨w.heap.size + 1 + 1 + 1, 4, none⟩ (u bus)) = WW := ⟨_, rfl⟩
  rw [hWW] at hB hU HL
  have hWW' : (((((w4.setCell ⟨w.heap.size + 1 + 1 + 1, 0, none⟩ (u a)).setCell ⟨w.heap.size + 1 + 1 + 1, 1, none⟩ (u b)).setCell ⟨w.heap.size + 1 + 1 + 1, 2, none⟩ (u r')).setCell ⟨w.heap.size + 1 + 1 + 1, 3, none⟩ (.int .u32 0)).setCell ⟨w.heap.size + 1 + 1 + 1, 4, none⟩ (u bus)) = WW := hWW
  rw [hWW']
  clear hWW hWW'
  have r0 : WW.cell? ⟨w.heap.size + 1 + 1 + 1, 0, none⟩ = some (u a) := hB.cell 0
  have r1 : WW.cell? ⟨w.heap.size + 1 + 1 + 1, 1, none⟩ = some (u b) := hB.cell 1
  have r2 : WW.cell? ⟨w.heap.size + 1 + 1 + 1, 2, none⟩ = some (u r') := hB.cell 2
  have r3 : WW.cell? ⟨w.heap.size + 1 + 1 + 1, 3, none⟩ = some (u 0#32) := hB.cell 3
  have r4 : WW.cell? ⟨w.heap.size + 1 + 1 + 1, 4, none⟩ = some (u bus) := hB.cell 4
  exact bodyPost_ret (v := .agg (wC a b r' 0#32 bus)) (by simp [results, Tryd.results59, go_sem, r0, r1, r2, r3, r4]) rfl ⟨rfl, HL.out⟩
theorem handled (op D N M : Nat) (i : Int) (hw : Wi op D N M i) (s nx : S) (bus : BitVec 32) (w : World) (hT : Tp.Tb w) :
    Calls Tryd.prog 59 #[.agg (iC op D N M i), sv s, sv nx, u bus] w fun e w' => e = .returned (.agg (wC (opA op D N M s) (opB op D N M (BitVec.ofInt 32 i) s) (resR op D N M i s nx) (oldR op D i s) bus)) ∧ Below w.heap.size w w' := by
  cases hs : ThRef.setsB op i with
  | true =>
    have e1 : resR op D N M i s nx = nx.r D := by unfold resR; rw [if_pos hs]
    have e2 : oldR op D i s = s.r D := by unfold oldR; rw [if_pos hs]
    rw [e1, e2]
    exact handY op D N M i hw hs s nx bus w hT
  | false =>
    have e1 : resR op D N M i s nx = unS op i (opA op D N M s) (opB op D N M (BitVec.ofInt 32 i) s) := by unfold resR; rw [if_neg (by rw [hs]; exact Bool.false_ne_true)]
    have e2 : oldR op D i s = 0#32 := by unfold oldR; rw [if_neg (by rw [hs]; exact Bool.false_ne_true)]
    rw [e1, e2]
    exact handN op D N M i hw hs s nx bus w hT
end Go.Proofs.YtkafmpdjpjgkgaaDoor.Lk
