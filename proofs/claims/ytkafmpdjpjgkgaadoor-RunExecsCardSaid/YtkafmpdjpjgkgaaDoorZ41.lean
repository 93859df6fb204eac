/- DERIVED. LkRx, LkRz in one text. By an AI agent. -/
import Derived.Test.YtkafmpdjpjgkgaaDoorZ21
import Derived.Test.YtkafmpdjpjgkgaaDoorZ33
import Derived.Test.YtkafmpdjpjgkgaaDoorZ04
import Derived.Deep.RegionHeld3
import Derived.BigRegion
/- DERIVED. Of the reference's leak.Step: its boxes. By an AI agent. -/
namespace Go.Proofs.YtkafmpdjpjgkgaaDoor.Lk
open Go.ChangeShapes Go.WideShapes Go.ChangeAt Go.RowKit WMath Word Ref Args Mm MmR Co
set_option linter.unusedVariables false
set_option linter.unusedSimpArgs false
/-- Behind the reference's leak.Step. -/
def RkEnd (n0 : Nat) (h : Hd) (r : R5) (w : World) (e : Ending) (w' : World) : Prop := e = .returned (rV5 r) ∧ RP n0 h r.m w' ∧ Upd h.X w w'
/-- The boxes: the state, both results, what comes, the instruction, the leak. -/
structure Rk (w : World) (n0 : Nat) (h : Hd) (m2 : St) (s x : S) (g gi gl : Nat) (k D N M : Nat) (i : Int) (cs : Array Value) (W : World) : Prop where
  bb : Ls w s W
  bx : Blk W g 51 (sC x)
  bi : Blk W gi 58 (iC k D N M i)
  bl : Blk W gl 39 cs
  p : RP n0 h m2 W
  u : Upd h.X w W
  g0 : w.heap.size + 1 + 1 < g
  g1 : g < gi
  g2 : gi < gl
  hB : ∀ k, h.B k → k < w.heap.size
section
variable {w W W' : World} {n0 : Nat} {h : Hd} {m2 : St} {s x : S} {g gi gl : Nat} {k D N M : Nat} {i : Int} {cs cs' : Array Value}
theorem Rk.b0 (r : Rk w n0 h m2 s x g gi gl k D N M i cs W) : Blk W w.heap.size 51 (sC s) := r.bb.b0
theorem Rk.below (r : Rk w n0 h m2 s x g gi gl k D N M i cs W) (hb : Below W.heap.size W W') : Rk w n0 h m2 s x g gi gl k D N M i cs W' :=
  ⟨r.bb.below hb, r.bx.below hb r.bx.lt, r.bi.below hb r.bi.lt, r.bl.below hb r.bl.lt, r.p.below hb, r.u.trans (Upd.of_below hb h.X), r.g0, r.g1, r.g2, r.hB⟩
theorem Rk.drewN (r : Rk w n0 h m2 s x g gi gl k D N M i cs W) (n : Nat) : Rk w n0 h m2 s x g gi gl k D N M i cs (W.drewN n) := r.below (below_drewN (Below.refl _ _) n)
theorem Rk.drew (r : Rk w n0 h m2 s x g gi gl k D N M i cs W) : Rk w n0 h m2 s x g gi gl k D N M i cs W.drew := r.below (Below.drew (Below.refl _ _))
theorem Rk.set (r : Rk w n0 h m2 s x g gi gl k D N M i cs W) (j : Nat) (v : Value) (hc : cs.setIfInBounds j v = cs') : Rk w n0 h m2 s x g gi gl k D N M i cs' (W.setCell ⟨gl, j, none⟩ v) := by
  have hu := upd_set W gl j v (Upd.refl _ W)
  have h0 := r.g0; have h1 := r.g1; have h2 := r.g2
  exact ⟨⟨r.bb.b0.upd hu (by omega), r.bb.b1.upd hu (by omega), r.bb.b2.upd hu (by omega)⟩, r.bx.upd hu (by omega), r.bi.upd hu (by omega), blk_one r.bl j v hc, r.p.upd hu (fun k hk e => by have := r.hB k hk; omega), upd_b r.u hu (by omega), h0, h1, h2, r.hB⟩
theorem Blk.cellsL {t : TypeId} {v0 v1 v2 v3 v4 v5 v6 v7 v8 v9 : Value} (h : Blk W gl t #[v0, v1, v2, v3, v4, v5, v6, v7, v8, v9]) :
    W.cell? ⟨gl, 0, none⟩ = some v0 ∧ W.cell? ⟨gl, 1, none⟩ = some v1 ∧ W.cell? ⟨gl, 2, none⟩ = some v2 ∧ W.cell? ⟨gl, 3, none⟩ = some v3 ∧ W.cell? ⟨gl, 4, none⟩ = some v4 ∧ W.cell? ⟨gl, 5, none⟩ = some v5 ∧ W.cell? ⟨gl, 6, none⟩ = some v6 ∧ W.cell? ⟨gl, 7, none⟩ = some v7 ∧ W.cell? ⟨gl, 8, none⟩ = some v8 ∧ W.cell? ⟨gl, 9, none⟩ = some v9 :=
  ⟨h.cell 0, h.cell 1, h.cell 2, h.cell 3, h.cell 4, h.cell 5, h.cell 6, h.cell 7, h.cell 8, h.cell 9⟩
theorem Rk.fin (r : Rk w n0 h m2 s x g gi gl k D N M i cs W) (l : L) : ∃ w20, (put10 (put13 W (w.heap.size + 1) x) (w.heap.size + 1 + 1) l).drew = w20 ∧ Blk w20 (w.heap.size + 1) 51 (sC x) ∧ Blk w20 (w.heap.size + 1 + 1) 39 (lC l) ∧ RP n0 h m2 w20 ∧ Upd h.X w w20 := by
  obtain ⟨hB1, hU1⟩ := blk13 r.bb.b1 x
  obtain ⟨hB2, hU2⟩ := blk10 (r.bb.b2.upd hU1 (by omega)) l
  have q1 := hB1.upd hU2 (by omega)
  have q3 := (r.p.upd hU1 (fun k hk e => by have := r.hB k hk; omega)).upd hU2 (fun k hk e => by have := r.hB k hk; omega)
  have q4 := upd_b (upd_b r.u hU1 (by omega)) hU2 (by omega)
  generalize put10 (put13 W (w.heap.size + 1) x) (w.heap.size + 1 + 1) l = WW at *
  exact ⟨_, rfl, q1.drew, hB2.drew, q3.drew, q4.drew⟩
end
/-- The leak's cells, the instruction's, where it is. -/
theorem rkAll {w W : World} {n0 : Nat} {h : Hd} {m2 : St} {s x : S} {g gi gl : Nat} {k D N M : Nat} {i : Int} {v0 v1 v2 v3 v4 v5 v6 v7 v8 v9 : Value} (r : Rk w n0 h m2 s x g gi gl k D N M i #[v0, v1, v2, v3, v4, v5, v6, v7, v8, v9] W) :
    W.cell? ⟨gl, 0, none⟩ = some v0 ∧ W.cell? ⟨gl, 1, none⟩ = some v1 ∧ W.cell? ⟨gl, 2, none⟩ = some v2 ∧ W.cell? ⟨gl, 3, none⟩ = some v3 ∧ W.cell? ⟨gl, 4, none⟩ = some v4 ∧ W.cell? ⟨gl, 5, none⟩ = some v5 ∧ W.cell? ⟨gl, 6, none⟩ = some v6 ∧ W.cell? ⟨gl, 7, none⟩ = some v7 ∧ W.cell? ⟨gl, 8, none⟩ = some v8 ∧ W.cell? ⟨gl, 9, none⟩ = some v9 ∧
    W.frozen? ⟨gl, 2, none⟩ = false ∧ W.frozen? ⟨gl, 3, none⟩ = false ∧ W.frozen? ⟨gl, 4, none⟩ = false ∧ W.frozen? ⟨gl, 5, none⟩ = false ∧ W.frozen? ⟨gl, 7, none⟩ = false ∧ W.frozen? ⟨gl, 8, none⟩ = false ∧ W.frozen? ⟨gl, 9, none⟩ = false ∧
    W.cell? ⟨gi, 0, none⟩ = some (.int .i64 (k : Int)) ∧ W.cell? ⟨gi, 1, none⟩ = some (.int .i64 (D : Int)) ∧ W.cell? ⟨gi, 2, none⟩ = some (.int .i64 (N : Int)) ∧ W.cell? ⟨gi, 3, none⟩ = some (.int .i64 (M : Int)) ∧ W.cell? ⟨gi, 4, none⟩ = some (.int .i64 i) ∧ W.cell? ⟨w.heap.size, 8, none⟩ = some (u s.pc) :=
  ⟨r.bl.cell 0, r.bl.cell 1, r.bl.cell 2, r.bl.cell 3, r.bl.cell 4, r.bl.cell 5, r.bl.cell 6, r.bl.cell 7, r.bl.cell 8, r.bl.cell 9, r.bl.frozen 2, r.bl.frozen 3, r.bl.frozen 4, r.bl.frozen 5, r.bl.frozen 7, r.bl.frozen 8, r.bl.frozen 9, r.bi.cell 0, r.bi.cell 1, r.bi.cell 2, r.bi.cell 3, r.bi.cell 4, r.b0.cell 8⟩
/-- All cells of the last region. -/
theorem rkLast {w W : World} {n0 : Nat} {h : Hd} {m2 : St} {s x : S} {g gi gl : Nat} {k D N M : Nat} {i : Int} {v0 v1 v2 v3 v4 v5 v6 v7 v8 v9 : Value} (r : Rk w n0 h m2 s x g gi gl k D N M i #[v0, v1, v2, v3, v4, v5, v6, v7, v8, v9] W) :
    (W.cell? ⟨gl, 0, none⟩ = some v0 ∧ W.cell? ⟨gl, 1, none⟩ = some v1 ∧ W.cell? ⟨gl, 2, none⟩ = some v2 ∧ W.cell? ⟨gl, 3, none⟩ = some v3 ∧ W.cell? ⟨gl, 4, none⟩ = some v4 ∧ W.cell? ⟨gl, 5, none⟩ = some v5 ∧ W.cell? ⟨gl, 6, none⟩ = some v6 ∧ W.cell? ⟨gl, 7, none⟩ = some v7 ∧ W.cell? ⟨gl, 8, none⟩ = some v8 ∧ W.cell? ⟨gl, 9, none⟩ = some v9) ∧
    (W.cell? ⟨g, 0, none⟩ = some (u (x.r 0)) ∧ W.cell? ⟨g, 1, none⟩ = some (u (x.r 1)) ∧ W.cell? ⟨g, 2, none⟩ = some (u (x.r 2)) ∧ W.cell? ⟨g, 3, none⟩ = some (u (x.r 3)) ∧ W.cell? ⟨g, 4, none⟩ = some (u (x.r 4)) ∧ W.cell? ⟨g, 5, none⟩ = some (u (x.r 5)) ∧ W.cell? ⟨g, 6, none⟩ = some (u (x.r 6)) ∧ W.cell? ⟨g, 7, none⟩ = some (u (x.r 7)) ∧ W.cell? ⟨g, 8, none⟩ = some (u x.pc) ∧ W.cell? ⟨g, 9, none⟩ = some (.bool x.n) ∧ W.cell? ⟨g, 10, none⟩ = some (.bool x.z) ∧ W.cell? ⟨g, 11, none⟩ = some (.bool x.c) ∧ W.cell? ⟨g, 12, none⟩ = some (.bool x.v)) ∧
    w.heap.size + 1 + 1 < gl ∧ w.heap.size + 1 + 1 < g :=
  ⟨Blk.cellsL r.bl, Blk.cells13 r.bx, by have h0 := r.g0; have h1 := r.g1; have h2 := r.g2; omega, r.g0⟩
/-- Ahead of the leak's block. -/
structure Rb (w : World) (n0 : Nat) (h : Hd) (m2 : St) (s x : S) (g : Nat) (W : World) : Prop where
  bb : Ls w s W
  bx : Blk W g 51 (sC x)
  p : RP n0 h m2 W
  u : Upd h.X w W
  g0 : w.heap.size + 1 + 1 < g
  hB : ∀ k, h.B k → k < w.heap.size
section
variable {w W W' : World} {n0 : Nat} {h : Hd} {m2 : St} {s x : S} {g : Nat}
theorem Rb.new (bb : Ls w s W) (p : RP n0 h m2 W) (hu : Upd h.X w W) (hB : ∀ k, h.B k → k < w.heap.size) (x : S) : ∃ W', W.alloc (.cells (sC x) 51) = W' ∧ Rb w n0 h m2 s x W.heap.size W' := by
  have hx : Below W.heap.size W (W.alloc (.cells (sC x) 51)) := (Below.refl _ _).alloc (Nat.le_refl _) _
  exact ⟨_, rfl, bb.below hx, Blk.new _ _ _, p.below hx, hu.trans (Upd.of_below hx h.X), bb.b2.lt, hB⟩
theorem Rb.below (r : Rb w n0 h m2 s x g W) (hb : Below W.heap.size W W') : Rb w n0 h m2 s x g W' := ⟨r.bb.below hb, r.bx.below hb r.bx.lt, r.p.below hb, r.u.trans (Upd.of_below hb h.X), r.g0, r.hB⟩
theorem Rb.drewN (r : Rb w n0 h m2 s x g W) (n : Nat) : Rb w n0 h m2 s x g (W.drewN n) := r.below (below_drewN (Below.refl _ _) n)
theorem Rb.leak (r : Rb w n0 h m2 s x g W) (k D N M : Nat) (i : Int) (cs : Array Value) {W1 : World} (h1 : W.alloc (.cells (iC k D N M i) 58) = W1) : ∃ W', W1.alloc (.cells cs 39) = W' ∧ Rk w n0 h m2 s x g W.heap.size W1.heap.size k D N M i cs W' := by
  subst h1
  have hx : Below W.heap.size W (W.alloc (.cells (iC k D N M i) 58)) := (Below.refl _ _).alloc (Nat.le_refl _) _
  have r1 := r.below hx
  have bi := Blk.new W 58 (iC k D N M i)
  generalize hW1 : W.alloc (.cells (iC k D N M i) 58) = W1 at *
  have hy : Below W1.heap.size W1 (W1.alloc (.cells cs 39)) := (Below.refl _ _).alloc (Nat.le_refl _) _
  have r2 := r1.below hy
  exact ⟨_, rfl, r2.bb, r2.bx, bi.below hy bi.lt, Blk.new _ _ _, r2.p, r2.u, r.g0, r.bx.lt, bi.lt, r.hB⟩
end
def finL (W : World) (n : Nat) (x : S) (v0 v1 v2 v3 v4 v5 v6 v7 v8 v9 : Value) : World := (((((((((((((((((((((((W.setCell ⟨n + 1, 0, none⟩ (u (x.r 0))).setCell ⟨n + 1, 1, none⟩ (u (x.r 1))).setCell ⟨n + 1, 2, none⟩ (u (x.r 2))).setCell ⟨n + 1, 3, none⟩ (u (x.r 3))).setCell ⟨n + 1, 4, none⟩ (u (x.r 4))).setCell ⟨n + 1, 5, none⟩ (u (x.r 5))).setCell ⟨n + 1, 6, none⟩ (u (x.r 6))).setCell ⟨n + 1, 7, none⟩ (u (x.r 7))).setCell ⟨n + 1, 8, none⟩ (u x.pc)).setCell ⟨n + 1, 9, none⟩ (.bool x.n)).setCell ⟨n + 1, 10, none⟩ (.bool x.z)).setCell ⟨n + 1, 11, none⟩ (.bool x.c)).setCell ⟨n + 1, 12, none⟩ (.bool x.v)).setCell ⟨n + 1 + 1, 0, none⟩ v0).setCell ⟨n + 1 + 1, 1, none⟩ v1).setCell ⟨n + 1 + 1, 2, none⟩ v2).setCell ⟨n + 1 + 1, 3, none⟩ v3).setCell ⟨n + 1 + 1, 4, none⟩ v4).setCell ⟨n + 1 + 1, 5, none⟩ v5).setCell ⟨n + 1 + 1, 6, none⟩ v6).setCell ⟨n + 1 + 1, 7, none⟩ v7).setCell ⟨n + 1 + 1, 8, none⟩ v8).setCell ⟨n + 1 + 1, 9, none⟩ v9).drew
def ra (w : World) (s : S) : World := ((w.alloc (.cells (sC s) 51)).alloc (.cells (sC zS) 51)).alloc (.cells (lC zL) 39)
def raL (w : World) (s : S) : World := ((w.alloc (.cells (sC s) 51)).alloc (.cells #[.int .u32 0, .int .u32 0, .int .u32 0, .int .u32 0, .int .u32 0, .int .u32 0, .int .u32 0, .int .u32 0, .int .u32 0, .bool false, .bool false, .bool false, .bool false] 51)).alloc (.cells #[.int .u32 0, .int .u16 0, .int .u32 0, .int .u32 0, .int .u32 0, .int .u32 0, .int .u32 0, .int .u32 0, .bool false, .bool false] 39)
theorem ra_new (w : World) (s : S) : Ls w s (((w.alloc (.cells (sC s) 51)).alloc (.cells (sC zS) 51)).alloc (.cells (lC zL) 39)) ∧ Below w.heap.size w (((w.alloc (.cells (sC s) 51)).alloc (.cells (sC zS) 51)).alloc (.cells (lC zL) 39)) := ls_new w s
end Go.Proofs.YtkafmpdjpjgkgaaDoor.Lk
/- DERIVED. Of the reference's leak.Step: where the step is an error. By an AI agent. -/
namespace Go.Proofs.YtkafmpdjpjgkgaaDoor.Lk
open Go.ChangeShapes Go.WideShapes Go.ChangeAt Go.RowKit WMath Word Ref Args Mm MmR Co
set_option linter.unusedVariables false
set_option linter.unusedSimpArgs false
theorem Ls.finR {w W : World} {s : S} {n0 : Nat} {h : Hd} {m2 : St} (r : Ls w s W) (p : RP n0 h m2 W) (hu : Upd h.X w W) (hB : ∀ k, h.B k → k < w.heap.size) (x : S) (l : L) : ∃ w20, put10 (put13 W (w.heap.size + 1) x) (w.heap.size + 1 + 1) l = w20 ∧ Blk w20 (w.heap.size + 1) 51 (sC x) ∧ Blk w20 (w.heap.size + 1 + 1) 39 (lC l) ∧ RP n0 h m2 w20 ∧ Upd h.X w w20 := by
  obtain ⟨hB1, hU1⟩ := blk13 r.b1 x
  obtain ⟨hB2, hU2⟩ := blk10 (r.b2.upd hU1 (by omega)) l
  have q1 := hB1.upd hU2 (by omega)
  have q3 := (p.upd hU1 (fun k hk e => by have := hB k hk; omega)).upd hU2 (fun k hk e => by have := hB k hk; omega)
  have q4 := upd_b (upd_b hu hU1 (by omega)) hU2 (by omega)
  generalize put10 (put13 W (w.heap.size + 1) x) (w.heap.size + 1 + 1) l = WW at *
  exact ⟨_, rfl, q1, hB2, q3, q4⟩
set_option maxRecDepth 100000 in
set_option maxHeartbeats 4000000 in
theorem rlstepE (s : S) (n0 : Nat) (h : Hd) (m : St) (w : World) (p : RP n0 h m w) (hC : ∀ W, RP n0 h m W → Calls Tryd.prog 31 #[sv s, ptr h.r] W (RpEnd n0 h (stepV s m) W)) (he : (stepV s m).2.2.1 ≠ 0) : Calls Tryd.prog 22 #[sv s, ptr h.r] w (RkEnd n0 h (leakV s m) w) := by
  have hl : leakV s m = ⟨(stepV s m).1, zL, (stepV s m).2.1, (stepV s m).2.2.1, (stepV s m).2.2.2⟩ := by unfold leakV; rw [if_neg he]
  rw [hl]
  rcases hq : stepV s m with ⟨x, st, er, m2⟩
  rw [hq] at hC he
  have he2 : (er != 0) = true := by simpa using he
  clear he hq hl
  have hX : ∀ k, h.X k → k < w.heap.size := fun k hk => (p.lt (Hd.XB hk)).2
  have hBB : ∀ k, h.B k → k < w.heap.size := fun k hk => (p.lt hk).2
  have hbu := bus_u p.fit
  have hbw : w.cell? ⟨h.r, 4, none⟩ = some (.int .u32 m.b) := p.blk.cell 4
  rw [hbu] at hbw
  generalize BitVec.ofInt 32 m.b = bs at *
  have HX := Lib.hid hX; have HBB := Lib.hid hBB; have HP := Lib.hid p; have HC := Lib.hid hC
  have hrlt := (p.lt (Hd.XB (.inl rfl))).2
  obtain ⟨hrk, hbel⟩ := ra_new w s
  have hbw1 := (hbel.cell (p := ⟨h.r, 4, none⟩) hrlt).trans hbw
  have HS := Lib.hid hrk; have HB := Lib.hid hbel
  clear hX hBB hbu hbw p hC hrk hbel hrlt
  go_enter Tryd.func22, Tryd.ntmps22
  go_upto_region 1 with fail
  obtain ⟨w1, hw1⟩ : ∃ w1, w1 = (((w.alloc (.cells (sC s) 51)).alloc (.cells (sC zS) 51)).alloc (.cells (lC zL) 39)) := ⟨_, rfl⟩
  rw [← hw1] at HS HB hbw1
  have hw1' : w1 = (((w.alloc (.cells (sC s) 51)).alloc (.cells #[.int .u32 0, .int .u32 0, .int .u32 0, .int .u32 0, .int .u32 0, .int .u32 0, .int .u32 0, .int .u32 0, .int .u32 0, .bool false, .bool false, .bool false, .bool false] 51)).alloc (.cells #[.int .u32 0, .int .u16 0, .int .u32 0, .int .u32 0, .int .u32 0, .int .u32 0, .int .u32 0, .int .u32 0, .bool false, .bool false] 39)) := hw1
  rw [← hw1']
  clear hw1 hw1'
  obtain ⟨n0', n1, n2, n3, n4, n5, n6, n7, n8, n9, n10, n11, n12⟩ := Blk.cells13 HS.out.b0
  go_wp2_with fail
  refine (HC.out _ (HP.out.below HB.out)).mono ?_
  rintro e w4 ⟨rfl, hp4, hu4⟩
  have HS4 := Lib.hid (HS.out.upd hu4 HX.out)
  have HU4 := Lib.hid ((Upd.of_below HB.out h.X).trans hu4)
  have HP4 := Lib.hid hp4
  clear n0' n1 n2 n3 n4 n5 n6 n7 n8 n9 n10 n11 n12 hp4 hu4 HS HB HC hbw1
  go_upto_region 3 with fail
  have hx : Below w4.heap.size w4 (w4.alloc (.cells (sC x) 51)) := (Below.refl _ _).alloc (Nat.le_refl _) _
  have HS5 := Lib.hid (HS4.out.below hx)
  have HU5 := Lib.hid (HU4.out.trans (Upd.of_below hx h.X))
  have HP5 := Lib.hid (HP4.out.below hx)
  have HI5 := Lib.hid (Blk.new w4 51 (sC x))
  obtain ⟨w5, hw5⟩ : ∃ w5, w4.alloc (.cells (sC x) 51) = w5 := ⟨_, rfl⟩
  rw [hw5] at HS5 HU5 HP5 HI5
  simp only [sC] at hw5
  rw [hw5]
  generalize w4.heap.size = g5 at *
  clear hw5 hx HS4 HU4 HP4
  obtain ⟨n0', n1, n2, n3, n4, n5, n6, n7, n8, n9, n10, n11, n12⟩ := Blk.cells13 HI5.out
  obtain ⟨z0, z1, z2, z3, z4, z5, z6, z7, z8, z9, z10, z11, z12⟩ := Blk.cells13 HS5.out.b1
  obtain ⟨f0, f1, f2, f3, f4, f5, f6, f7, f8, f9, f10, f11, f12⟩ := Blk.frozen13 HS5.out.b1
  obtain ⟨y0, y1, y2, y3, y4, y5, y6, y7, y8, y9⟩ := Blk.cells10 HS5.out.b2
  obtain ⟨k0, k1, k2, k3, k4, k5, k6, k7, k8, k9⟩ := Blk.frozen10 HS5.out.b2
  go_wp2_with fail
  clear n0' n1 n2 n3 n4 n5 n6 n7 n8 n9 n10 n11 n12 z0 z1 z2 z3 z4 z5 z6 z7 z8 z9 z10 z11 z12 f0 f1 f2 f3 f4 f5 f6 f7 f8 f9 f10 f11 f12 y0 y1 y2 y3 y4 y5 y6 y7 y8 y9 k0 k1 k2 k3 k4 k5 k6 k7 k8 k9
  obtain ⟨w20, hw20, hQ1, hQ2, hPP, hUU⟩ := Ls.finR HS5.out HP5.out HU5.out HBB.out x zL
  have HU := Lib.hid hUU; have HPP := Lib.hid hPP; have HQ1 := Lib.hid hQ1; have HQ2 := Lib.hid hQ2
  have hw20' : (((((((((((((((((((((((w5.setCell ⟨w.heap.size + 1, 0, none⟩ (u (x.r 0))).setCell ⟨w.heap.size + 1, 1, none⟩ (u (x.r 1))).setCell ⟨w.heap.size + 1, 2, none⟩ (u (x.r 2))).setCell ⟨w.heap.size + 1, 3, none⟩ (u (x.r 3))).setCell ⟨w.heap.size + 1, 4, none⟩ (u (x.r 4))).setCell ⟨w.heap.size + 1, 5, none⟩ (u (x.r 5))).setCell ⟨w.heap.size + 1, 6, none⟩ (u (x.r 6))).setCell ⟨w.heap.size + 1, 7, none⟩ (u (x.r 7))).setCell ⟨w.heap.size + 1, 8, none⟩ (u x.pc)).setCell ⟨w.heap.size + 1, 9, none⟩ (.bool x.n)).setCell ⟨w.heap.size + 1, 10, none⟩ (.bool x.z)).setCell ⟨w.heap.size + 1, 11, none⟩ (.bool x.c)).setCell ⟨w.heap.size + 1, 12, none⟩ (.bool x.v)).setCell ⟨w.heap.size + 1 + 1, 0, none⟩ (.int .u32 0)).setCell ⟨w.heap.size + 1 + 1, 1, none⟩ (.int .u16 0)).setCell ⟨w.heap.size + 1 + 1, 2, none⟩ (.int .u32 0)).setCell ⟨w.heap.size + 1 + 1, 3, none⟩ (.int .u32 0)).setCell ⟨w.heap.size + 1 + 1, 4, none⟩ (.int .u32 0)).setCell ⟨w.heap.size + 1 + 1, 5, none⟩ (.int .u32 0)).setCell ⟨w.heap.size + 1 + 1, 6, none⟩ (.int .u32 0)).setCell ⟨w.heap.size + 1 + 1, 7, none⟩ (.int .u32 0)).setCell ⟨w.heap.size + 1 + 1, 8, none⟩ (.bool false)).setCell ⟨w.heap.size + 1 + 1, 9, none⟩ (.bool false)) = w20 := hw20
  rw [hw20']
  clear hw20 hw20' hQ1 hQ2 hPP hUU HS5 HP5 HU5 HI5
  obtain ⟨y0, y1, y2, y3, y4, y5, y6, y7, y8, y9⟩ := Blk.cells10 HQ2.out
  obtain ⟨n0', n1, n2, n3, n4, n5, n6, n7, n8, n9, n10, n11, n12⟩ := Blk.cells13 HQ1.out
  simp only [zL] at y0 y1 y2 y3 y4 y5 y6 y7 y8 y9
  exact bodyPost_ret (v := rV5 ⟨x, zL, st, er, m2⟩) (by simp [results, Tryd.results22, go_sem, n0', n1, n2, n3, n4, n5, n6, n7, n8, n9, n10, n11, n12, y0, y1, y2, y3, y4, y5, y6, y7, y8, y9, zL]) rfl ⟨rfl, HPP.out, HU.out⟩
end Go.Proofs.YtkafmpdjpjgkgaaDoor.Lk
