/- DERIVED. CoRx, CoB0 in one text. By an AI agent. -/
import Derived.Test.YtkafmpdjpjgkgaaDoorZ28
import Derived.Test.YtkafmpdjpjgkgaaDoorZ29
import Derived.Test.YtkafmpdjpjgkgaaDoorZ30
import Derived.Test.YtkafmpdjpjgkgaaDoorZ32
/- DERIVED. Of the reference's Step: what its heads lay. By an AI agent. -/
namespace Go.Proofs.YtkafmpdjpjgkgaaDoor.Co
open Go.ChangeShapes Go.WideShapes Go.ChangeAt Go.RowKit WMath Word Ref Args Mm MmR
set_option linter.unusedVariables false
set_option linter.unusedSimpArgs false
/-- Behind the reference's Step. -/
def RpEnd (n0 : Nat) (h : Hd) (r : S × Bool × Int × St) (w : World) (e : Ending) (w' : World) : Prop := e = .returned (.tuple #[sv r.1, .bool r.2.1, .int .i64 r.2.2.1]) ∧ RP n0 h r.2.2.2 w' ∧ Upd h.X w w'
/-- The four blocks: the state, the result, the instruction, what comes. -/
structure Rx (w : World) (g g2 : Nat) (k D N M : Nat) (i : Int) (s x : S) (W : World) : Prop where
  b0 : Blk W w.heap.size 51 (sC s)
  b1 : Blk W (w.heap.size + 1) 51 (sC zS)
  bi : Blk W g 58 (iC k D N M i)
  bx : Blk W g2 51 (sC x)
  lg : w.heap.size + 1 < g
  lx : g < g2
abbrev K13e (n : Nat) (s : S) (w : World) (E : Prop) : Prop := w.cell? ⟨n, 0, none⟩ = some (u (s.r 0)) ∧ w.cell? ⟨n, 1, none⟩ = some (u (s.r 1)) ∧ w.cell? ⟨n, 2, none⟩ = some (u (s.r 2)) ∧ w.cell? ⟨n, 3, none⟩ = some (u (s.r 3)) ∧ w.cell? ⟨n, 4, none⟩ = some (u (s.r 4)) ∧ w.cell? ⟨n, 5, none⟩ = some (u (s.r 5)) ∧ w.cell? ⟨n, 6, none⟩ = some (u (s.r 6)) ∧ w.cell? ⟨n, 7, none⟩ = some (u (s.r 7)) ∧ w.cell? ⟨n, 8, none⟩ = some (u s.pc) ∧ w.cell? ⟨n, 9, none⟩ = some (.bool s.n) ∧ w.cell? ⟨n, 10, none⟩ = some (.bool s.z) ∧ w.cell? ⟨n, 11, none⟩ = some (.bool s.c) ∧ w.cell? ⟨n, 12, none⟩ = some (.bool s.v) ∧ E
abbrev K13 (n : Nat) (s : S) (w : World) : Prop := w.cell? ⟨n, 0, none⟩ = some (u (s.r 0)) ∧ w.cell? ⟨n, 1, none⟩ = some (u (s.r 1)) ∧ w.cell? ⟨n, 2, none⟩ = some (u (s.r 2)) ∧ w.cell? ⟨n, 3, none⟩ = some (u (s.r 3)) ∧ w.cell? ⟨n, 4, none⟩ = some (u (s.r 4)) ∧ w.cell? ⟨n, 5, none⟩ = some (u (s.r 5)) ∧ w.cell? ⟨n, 6, none⟩ = some (u (s.r 6)) ∧ w.cell? ⟨n, 7, none⟩ = some (u (s.r 7)) ∧ w.cell? ⟨n, 8, none⟩ = some (u s.pc) ∧ w.cell? ⟨n, 9, none⟩ = some (.bool s.n) ∧ w.cell? ⟨n, 10, none⟩ = some (.bool s.z) ∧ w.cell? ⟨n, 11, none⟩ = some (.bool s.c) ∧ w.cell? ⟨n, 12, none⟩ = some (.bool s.v)
section
variable {X : Nat → Prop} {w W W' : World} {g g2 k D N M : Nat} {i : Int} {s x : S}
theorem Rx.upd (h : Rx w g g2 k D N M i s x W) (hu : Upd X W W') (hx : ∀ q, X q → q < w.heap.size) : Rx w g g2 k D N M i s x W' :=
  ⟨h.b0.upd hu (fun q => by have := hx _ q; omega), h.b1.upd hu (fun q => by have := hx _ q; omega), h.bi.upd hu (fun q => by have := hx _ q; have := h.lg; omega), h.bx.upd hu (fun q => by have := hx _ q; have := h.lg; have := h.lx; omega), h.lg, h.lx⟩
theorem Rx.below (h : Rx w g g2 k D N M i s x W) (hb : Below W.heap.size W W') : Rx w g g2 k D N M i s x W' := ⟨h.b0.below hb h.b0.lt, h.b1.below hb h.b1.lt, h.bi.below hb h.bi.lt, h.bx.below hb h.bx.lt, h.lg, h.lx⟩
theorem Rx.next (h : Rx w g g2 k D N M i s x W) (x' : S) (hb : Blk W' g2 51 (sC x')) (hu : Upd (· = g2) W W') : Rx w g g2 k D N M i s x' W' := by
  have h1 := h.lg; have h2 := h.lx
  exact ⟨h.b0.upd hu (by omega), h.b1.upd hu (by omega), h.bi.upd hu (by omega), hb, h1, h2⟩
theorem Rx.drew (h : Rx w g g2 k D N M i s x W) : Rx w g g2 k D N M i s x W.drew := ⟨h.b0, h.b1, h.bi, h.bx, h.lg, h.lx⟩
theorem Rx.drewN (h : Rx w g g2 k D N M i s x W) (n : Nat) : Rx w g g2 k D N M i s x (W.drewN n) := ⟨h.b0, h.b1, h.bi, h.bx, h.lg, h.lx⟩
end
theorem and_not3 (x : BitVec 32) : bits .andNot .u32 (x.toNat : Int) 3 = (x.toNat : Int) / 4 * 4 := by
  rw [not3]
  have h : (x &&& ~~~3#32) = (x >>> 2) <<< 2 := by
    apply BitVec.eq_of_getLsbD_eq; intro k hk
    simp only [BitVec.getLsbD_and, BitVec.getLsbD_not, BitVec.getLsbD_shiftLeft, BitVec.getLsbD_ushiftRight, hk, decide_true, Bool.true_and]
    have h3 : (3#32).getLsbD k = decide (k < 2) := by
      have : ∀ j : Fin 32, (3#32).getLsbD j.val = decide (j.val < 2) := by decide
      exact this ⟨k, hk⟩
    rw [h3]
    by_cases h2 : k < 2
    · simp [h2]
    · simp [h2, show 2 + (k - 2) = k by omega]
  rw [h, BitVec.toNat_shiftLeft, BitVec.toNat_ushiftRight, Nat.shiftRight_eq_div_pow, Nat.shiftLeft_eq]
  have := x.isLt
  omega
theorem tmod8 (D : Nat) : ((D : Int).tmod 8) = ((D % 8 : Nat) : Int) := by rw [Int.tmod_eq_emod_of_nonneg (by omega)]; omega
set_option maxRecDepth 100000 in
set_option maxHeartbeats 2000000 in
theorem rstepA (s : S) (n0 : Nat) (h : Hd) (m : St) (w : World) (p : RP n0 h m w) (er : Int) (hfe : fetchV m (s.pc.toNat : Int) = (0, er)) (he : er ≠ 0) : Calls Tryd.prog 31 #[sv s, ptr h.r] w (RpEnd n0 h (s, false, er, m) w) := by
  have he2 : (er != 0) = true := by simp [he]
  clear he
  have hX : ∀ k, h.X k → k < w.heap.size := fun k hk => (p.lt (Hd.XB hk)).2
  have hBB : ∀ k, h.B k → k < w.heap.size := fun k hk => (p.lt hk).2
  have hF := fun W p => MmR.fetch n0 h m W (s.pc.toNat : Int) (by omega) (bd s.pc) p
  rw [hfe] at hF
  have HX := Lib.hid hX; have HBB := Lib.hid hBB; have HP := Lib.hid p; have HF := Lib.hid hF
  clear hX hBB p hF hfe
  go_enter Tryd.func31, Tryd.ntmps31
  go_wp2_with fail
  obtain ⟨hsx, hbel⟩ := sx_new w s
  refine (HF.out _ (PM.below HP.out hbel)).mono ?_
  rintro e w1 ⟨rfl, nq, rfl⟩
  have HS := Lib.hid (hsx.drewN nq)
  have HB := Lib.hid (below_drewN hbel nq)
  obtain ⟨w1, hw1⟩ : ∃ w1, w1 = ((w.alloc (.cells (sC s) 51)).alloc (.cells (sC zS) 51)).drewN nq := ⟨_, rfl⟩
  rw [← hw1] at HS HB ⊢
  clear hw1 hsx hbel HF
  obtain ⟨n0, n1, n2, n3, n4, n5, n6, n7, n8, n9, n10, n11, n12⟩ := Blk.cells13 HS.out.b0
  obtain ⟨z0, z1, z2, z3, z4, z5, z6, z7, z8, z9, z10, z11, z12⟩ := Blk.cells13 HS.out.b1
  obtain ⟨f0, f1, f2, f3, f4, f5, f6, f7, f8, f9, f10, f11, f12⟩ := Blk.frozen13 HS.out.b1
  go_wp2_with fail
  clear n0 n1 n2 n3 n4 n5 n6 n7 n8 n9 n10 n11 n12 z0 z1 z2 z3 z4 z5 z6 z7 z8 z9 z10 z11 z12 f0 f1 f2 f3 f4 f5 f6 f7 f8 f9 f10 f11 f12
  obtain ⟨hB, hU⟩ := blk13 HS.out.b1 s
  have HL := Lib.hid (upd_b (Upd.of_below HB.out h.X) hU (by omega))
  have HPL := Lib.hid (PM.upd (PM.below HP.out HB.out) hU (fun k hk e => by have := HBB.out k hk; omega))
  obtain ⟨w8, hw8⟩ : ∃ w8, put13 w1 (w.heap.size + 1) s = w8 := ⟨_, rfl⟩
  rw [hw8] at hB HL HPL
  simp only [put13] at hw8
  rw [hw8]
  clear hw8 hU
  obtain ⟨n0, n1, n2, n3, n4, n5, n6, n7, n8, n9, n10, n11, n12⟩ := Blk.cells13 hB
  exact bodyPost_ret (v := .tuple #[sv s, .bool false, .int .i64 er]) (by simp [results, Tryd.results31, go_sem, n0, n1, n2, n3, n4, n5, n6, n7, n8, n9, n10, n11, n12]) rfl ⟨rfl, HPL.out, HL.out⟩
set_option maxRecDepth 100000 in
set_option maxHeartbeats 2000000 in
theorem rstepB (s : S) (n0 : Nat) (h : Hd) (m : St) (w : World) (p : RP n0 h m w) (hf : Nat) (hh : hf < 65536) (hfe : fetchV m (s.pc.toNat : Int) = ((hf : Int), 0)) (k : Nat) (q : Tp.Nums) (er : Nat) (htf : Tp.takeF 21 0 hf = (k, q, er)) (he : er ≠ 0) : Calls Tryd.prog 31 #[sv s, ptr h.r] w (RpEnd n0 h (s, false, (er : Int), m) w) := by
  have he2 : ((er : Int) != 0) = true := by simp [he]
  obtain ⟨D, N, M, i⟩ := q
  have HTF := Lib.hid htf
  clear he htf
  have hX : ∀ k, h.X k → k < w.heap.size := fun k hk => (p.lt (Hd.XB hk)).2
  have hBB : ∀ k, h.B k → k < w.heap.size := fun k hk => (p.lt hk).2
  have hF := fun W p => MmR.fetch n0 h m W (s.pc.toNat : Int) (by omega) (bd s.pc) p
  rw [hfe] at hF
  have HX := Lib.hid hX; have HBB := Lib.hid hBB; have HP := Lib.hid p; have HF := Lib.hid hF
  clear hX hBB p hF hfe
  go_enter Tryd.func31, Tryd.ntmps31
  go_wp2_with fail
  obtain ⟨hsx, hbel⟩ := sx_new w s
  refine (HF.out _ (PM.below HP.out hbel)).mono ?_
  rintro e w1 ⟨rfl, nq, rfl⟩
  have HS := Lib.hid (hsx.drewN nq)
  have HB := Lib.hid (below_drewN hbel nq)
  obtain ⟨w1, hw1⟩ : ∃ w1, w1 = ((w.alloc (.cells (sC s) 51)).alloc (.cells (sC zS) 51)).drewN nq := ⟨_, rfl⟩
  rw [← hw1] at HS HB ⊢
  clear hw1 hsx hbel HF
  obtain ⟨n0, n1, n2, n3, n4, n5, n6, n7, n8, n9, n10, n11, n12⟩ := Blk.cells13 HS.out.b0
  obtain ⟨z0, z1, z2, z3, z4, z5, z6, z7, z8, z9, z10, z11, z12⟩ := Blk.cells13 HS.out.b1
  obtain ⟨f0, f1, f2, f3, f4, f5, f6, f7, f8, f9, f10, f11, f12⟩ := Blk.frozen13 HS.out.b1
  go_wp2_with fail
  refine (Tp.takeR hf hh _).mono ?_
  rintro e w2 ⟨rfl, hb⟩
  rw [HTF.out, show Tp.resV (k, ⟨D, N, M, i⟩, er) = .tuple #[.agg #[.int .i64 k, .int .i64 D, .int .i64 N, .int .i64 M, .int .i64 i], .int .i64 (er : Nat)] from rfl]
  have HS2 := Lib.hid (HS.out.below hb)
  have HB2 := Lib.hid (HB.out.trans (hb.mono HB.out.size))
  clear n0 n1 n2 n3 n4 n5 n6 n7 n8 n9 n10 n11 n12 z0 z1 z2 z3 z4 z5 z6 z7 z8 z9 z10 z11 z12 f0 f1 f2 f3 f4 f5 f6 f7 f8 f9 f10 f11 f12 hb HS HB
  go_upto_region 5 with fail
  have hx : Below w2.heap.size w2 (w2.alloc (.cells #[.int .i64 k, .int .i64 D, .int .i64 N, .int .i64 M, .int .i64 i] 58)) := (Below.refl _ _).alloc (Nat.le_refl _) _
  have HS3 := Lib.hid (HS2.out.below hx)
  have HB3 := Lib.hid (HB2.out.trans (hx.mono HB2.out.size))
  have HI3 := Lib.hid (Blk.new w2 58 #[.int .i64 k, .int .i64 D, .int .i64 N, .int .i64 M, .int .i64 i])
  have HG := Lib.hid (HS2.out.b1.lt)
  have HG3 := Lib.hid (HI3.out.lt)
  obtain ⟨w3, hw3⟩ : ∃ w3, w2.alloc (.cells #[.int .i64 k, .int .i64 D, .int .i64 N, .int .i64 M, .int .i64 i] 58) = w3 := ⟨_, rfl⟩
  rw [hw3] at HS3 HB3 HI3 HG3 ⊢
  generalize w2.heap.size = g at *
  clear hw3 hx HS2 HB2
  have hg : w.heap.size + 1 < g := HG.out
  have hg0 : w.heap.size < g := by omega
  obtain ⟨n0, n1, n2, n3, n4, n5, n6, n7, n8, n9, n10, n11, n12⟩ := Blk.cells13 HS3.out.b0
  obtain ⟨z0, z1, z2, z3, z4, z5, z6, z7, z8, z9, z10, z11, z12⟩ := Blk.cells13 HS3.out.b1
  obtain ⟨f0, f1, f2, f3, f4, f5, f6, f7, f8, f9, f10, f11, f12⟩ := Blk.frozen13 HS3.out.b1
  go_wp2_with fail
  clear n0 n1 n2 n3 n4 n5 n6 n7 n8 n9 n10 n11 n12 z0 z1 z2 z3 z4 z5 z6 z7 z8 z9 z10 z11 z12 f0 f1 f2 f3 f4 f5 f6 f7 f8 f9 f10 f11 f12
  obtain ⟨hB, hU⟩ := blk13 HS3.out.b1 s
  have HL := Lib.hid (upd_b (Upd.of_below HB3.out h.X) hU (by omega))
  have HPL := Lib.hid (PM.upd (PM.below HP.out HB3.out) hU (fun k hk e => by have := HBB.out k hk; omega))
  obtain ⟨w8, hw8⟩ : ∃ w8, put13 w3 (w.heap.size + 1) s = w8 := ⟨_, rfl⟩
  rw [hw8] at hB HL HPL
  simp only [put13] at hw8
  rw [hw8]
  clear hw8 hU
  obtain ⟨n0, n1, n2, n3, n4, n5, n6, n7, n8, n9, n10, n11, n12⟩ := Blk.cells13 hB
  exact bodyPost_ret (v := .tuple #[sv s, .bool false, .int .i64 er]) (by simp [results, Tryd.results31, go_sem, n0, n1, n2, n3, n4, n5, n6, n7, n8, n9, n10, n11, n12]) rfl ⟨rfl, HPL.out, HL.out⟩
end Go.Proofs.YtkafmpdjpjgkgaaDoor.Co
/- DERIVED. Both memories over one state. By an AI agent. -/
namespace Go.Proofs.YtkafmpdjpjgkgaaDoor.Co
open Go.ChangeShapes Go.WideShapes Go.ChangeAt Go.RowKit WMath Word Ref Args Mm MmR
set_option linter.unusedVariables false
set_option linter.unusedSimpArgs false
/-- Both memories, over the same state, apart. -/
structure Bo (W : World) (n1 n2 : Nat) (h h' : Hd) (m : St) (w : World) : Prop where
  p : PP n1 h m w
  r : RP n2 h' m w
  lo : Below W.heap.size W w
  sep : ∀ k, h.B k → k < n2
  l1 : W.heap.size ≤ n1
  l2 : n1 ≤ n2
section
variable {W w w1 w2 : World} {n1 n2 : Nat} {h h' : Hd} {m m' : St}
theorem Bo.px (i : Bo W n1 n2 h h' m w) : ∀ k, h.X k → W.heap.size ≤ k := fun k hk => Nat.le_trans i.l1 (i.p.X_low k hk)
theorem Bo.rx (i : Bo W n1 n2 h h' m w) : ∀ k, h'.X k → W.heap.size ≤ k := fun k hk => Nat.le_trans i.l1 (Nat.le_trans i.l2 (i.r.X_low k hk))
theorem Bo.rp (i : Bo W n1 n2 h h' m w) : ∀ k, h.B k → ¬ h'.X k := fun k hk hx => by have h1 := (i.r.lt (Hd.XB hx)).1; have h2 := i.sep k hk; omega
theorem Bo.ext (i : Bo W n1 n2 h h' m w) (he : Below w.heap.size w w1) : Bo W n1 n2 h h' m w1 := ⟨i.p.below he, i.r.below he, i.lo.trans (he.mono i.lo.size), i.sep, i.l1, i.l2⟩
theorem bel_upd {X : Nat → Prop} {W w w' : World} (h : Below W.heap.size W w) (hu : Upd X w w') (hX : ∀ k, X k → W.heap.size ≤ k) : Below W.heap.size W w' := Below.trans h (hu.below h.size hX)
/-- The program's turn, then the reference's. -/
theorem Bo.both (i : Bo W n1 n2 h h' m w) (p1 : PP n1 h m' w1) (u1 : Upd h.X w w1) (r2 : RP n2 h' m' w2) (u2 : Upd h'.X w1 w2) : Bo W n1 n2 h h' m' w2 :=
  ⟨p1.upd u2 i.rp, r2, bel_upd (bel_upd i.lo u1 i.px) u2 i.rx, i.sep, i.l1, i.l2⟩
end
theorem lies_new (w : World) (k : IntKind) (t : TypeId) (zs : List Int) : Lies (w.alloc (.cells (zs.map (Value.int k)).toArray t)) (some ⟨w.heap.size, 0, none⟩) (zs.map (.int k)) := fun j u hj => ⟨_, rfl, by
  rw [Args.add_plain, Nat.zero_add, World.cell?_alloc_at _ _ _ _ rfl]; simpa using hj⟩
end Go.Proofs.YtkafmpdjpjgkgaaDoor.Co
