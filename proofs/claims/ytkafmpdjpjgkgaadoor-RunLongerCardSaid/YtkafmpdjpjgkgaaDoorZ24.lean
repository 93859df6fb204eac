/- DERIVED. LkStep in one text. By an AI agent. -/
import Derived.Test.YtkafmpdjpjgkgaaDoorZ23
import Derived.Test.YtkafmpdjpjgkgaaDoorZ21
import Derived.StillTailTactics
/- DERIVED. The contract of the program's leak.Step. By an AI agent. -/
namespace Go.Proofs.YtkafmpdjpjgkgaaDoor.Lk
open Go.ChangeShapes Go.WideShapes Go.ChangeAt Go.RowKit WMath Word Args Mm Co
set_option linter.unusedVariables false
set_option linter.unusedSimpArgs false
theorem Ls.fin {w W : World} {s : S} {n0 : Nat} {h : Hd} {m2 : St} (r : Ls w s W) (p : PP n0 h m2 W) (hu : Upd h.X w W) (hB : ∀ k, h.B k → k < w.heap.size) (x : S) (l : L) : ∃ w20, put10 (put13 W (w.heap.size + 1) x) (w.heap.size + 1 + 1) l = w20 ∧ Blk w20 (w.heap.size + 1) 51 (sC x) ∧ Blk w20 (w.heap.size + 1 + 1) 39 (lC l) ∧ PP n0 h m2 w20 ∧ Upd h.X w w20 := by
  obtain ⟨hB1, hU1⟩ := blk13 r.b1 x
  obtain ⟨hB2, hU2⟩ := blk10 (r.b2.upd hU1 (by omega)) l
  have q1 := hB1.upd hU2 (by omega)
  have q3 := (p.upd hU1 (fun k hk e => by have := hB k hk; omega)).upd hU2 (fun k hk e => by have := hB k hk; omega)
  have q4 := upd_b (upd_b hu hU1 (by omega)) hU2 (by omega)
  generalize put10 (put13 W (w.heap.size + 1) x) (w.heap.size + 1 + 1) l = WW at *
  exact ⟨_, rfl, q1, hB2, q3, q4⟩
set_option maxRecDepth 100000 in
set_option maxHeartbeats 4000000 in
theorem lstepE (s : S) (n0 : Nat) (h : Hd) (m : St) (w : World) (p : PP n0 h m w) (hT : Tp.Tb w) (he : (stepV s m).2.2.1 ≠ 0) : Calls Tryd.prog 41 #[sv s, ptr h.r] w (LkEnd n0 h (leakV s m) w) := by
  have hl : leakV s m = ⟨(stepV s m).1, zL, (stepV s m).2.1, (stepV s m).2.2.1, (stepV s m).2.2.2⟩ := by unfold leakV; rw [if_neg he]
  rw [hl]
  have hC := fun W p hT => cstep s n0 h m W p hT
  rcases hq : stepV s m with ⟨x, st, er, m2⟩
  rw [hq] at hC he
  have he2 : (er != 0) = true := by simpa using he
  clear he hq hl
  have hX : ∀ k, h.X k → k < w.heap.size := fun k hk => (p.lt (Hd.XB hk)).2
  have hBB : ∀ k, h.B k → k < w.heap.size := fun k hk => (p.lt hk).2
  have HX := Lib.hid hX; have HBB := Lib.hid hBB; have HP := Lib.hid p; have HT := Lib.hid hT; have HC := Lib.hid hC
  clear hX hBB p hT hC
  go_enter Tryd.func41, Tryd.ntmps41
  go_wp2_with fail
  obtain ⟨hls, hbel⟩ := ls_new w s
  refine (onBus n0 h m _ (HP.out.below hbel)).mono ?_
  rintro e w1 ⟨rfl, rfl⟩
  have HS := Lib.hid hls; have HB := Lib.hid hbel
  obtain ⟨w1, hw1⟩ : ∃ w1, w1 = (((w.alloc (.cells (sC s) 51)).alloc (.cells (sC zS) 51)).alloc (.cells (lC zL) 39)) := ⟨_, rfl⟩
  rw [← hw1] at HS HB ⊢
  clear hw1 hls hbel
  obtain ⟨n0, n1, n2, n3, n4, n5, n6, n7, n8, n9, n10, n11, n12⟩ := Blk.cells13 HS.out.b0
  go_wp2_with fail
  refine (HC.out _ (HP.out.below HB.out) (HT.out.below HB.out)).mono ?_
  rintro e w4 ⟨rfl, hp4, hu4⟩
  have HS4 := Lib.hid (HS.out.upd hu4 HX.out)
  have HU4 := Lib.hid ((Upd.of_below HB.out h.X).trans hu4)
  have HP4 := Lib.hid hp4
  clear n0 n1 n2 n3 n4 n5 n6 n7 n8 n9 n10 n11 n12 hp4 hu4 HS HB HC
  go_upto_region 3 with fail
  have hx : Below w4.heap.size w4 (w4.alloc (.cells (sC x) 51)) := (Below.refl _ _).alloc (Nat.le_refl _) _
  have HS5 := Lib.hid (HS4.out.below hx)
  have HU5 := Lib.hid (HU4.out.trans (Upd.of_below hx h.X))
  have HP5 := Lib.hid (HP4.out.below hx)
  have HI5 := Lib.hid (Blk.new w4 51 (sC x))
  obtain ⟨w5, hw5⟩ : ∃ w5, w4.alloc (.cells (sC x) 51) = w5 := ⟨_, rfl⟩
  rw [hw5] at HS5 HU5 HP5 HI5
  simp only [sC] at hw5
  rw [hw5]
  generalize w4.heap.size = g5 at *
  clear hw5 hx HS4 HU4 HP4
  obtain ⟨n0, n1, n2, n3, n4, n5, n6, n7, n8, n9, n10, n11, n12⟩ := Blk.cells13 HI5.out
  obtain ⟨z0, z1, z2, z3, z4, z5, z6, z7, z8, z9, z10, z11, z12⟩ := Blk.cells13 HS5.out.b1
  obtain ⟨f0, f1, f2, f3, f4, f5, f6, f7, f8, f9, f10, f11, f12⟩ := Blk.frozen13 HS5.out.b1
  obtain ⟨y0, y1, y2, y3, y4, y5, y6, y7, y8, y9⟩ := Blk.cells10 HS5.out.b2
  obtain ⟨k0, k1, k2, k3, k4, k5, k6, k7, k8, k9⟩ := Blk.frozen10 HS5.out.b2
  go_wp2_with fail
  clear n0 n1 n2 n3 n4 n5 n6 n7 n8 n9 n10 n11 n12 z0 z1 z2 z3 z4 z5 z6 z7 z8 z9 z10 z11 z12 f0 f1 f2 f3 f4 f5 f6 f7 f8 f9 f10 f11 f12 y0 y1 y2 y3 y4 y5 y6 y7 y8 y9 k0 k1 k2 k3 k4 k5 k6 k7 k8 k9
  obtain ⟨w20, hw20, hQ1, hQ2, hPP, hUU⟩ := Ls.fin HS5.out HP5.out HU5.out HBB.out x zL
  have HU := Lib.hid hUU; have HPP := Lib.hid hPP; have HQ1 := Lib.hid hQ1; have HQ2 := Lib.hid hQ2
  have hw20' : (((((((((((((((((((((((w5.setCell ⟨w.heap.size + 1, 0, none⟩ (u (x.r 0))).setCell ⟨w.heap.size + 1, 1, none⟩ (u (x.r 1))).setCell ⟨w.heap.size + 1, 2, none⟩ (u (x.r 2))).setCell ⟨w.heap.size + 1, 3, none⟩ (u (x.r 3))).setCell ⟨w.heap.size + 1, 4, none⟩ (u (x.r 4))).setCell ⟨w.heap.size + 1, 5, none⟩ (u (x.r 5))).setCell ⟨w.heap.size + 1, 6, none⟩ (u (x.r 6))).setCell ⟨w.heap.size + 1, 7, none⟩ (u (x.r 7))).setCell ⟨w.heap.size + 1, 8, none⟩ (u x.pc)).setCell ⟨w.heap.size + 1, 9, none⟩ (.bool x.n)).setCell ⟨w.heap.size + 1, 10, none⟩ (.bool x.z)).setCell ⟨w.heap.size + 1, 11, none⟩ (.bool x.c)).setCell ⟨w.heap.size + 1, 12, none⟩ (.bool x.v)).setCell ⟨w.heap.size + 1 + 1, 0, none⟩ (.int .u32 0)).setCell ⟨w.heap.size + 1 + 1, 1, none⟩ (.int .u16 0)).setCell ⟨w.heap.size + 1 + 1, 2, none⟩ (.int .u32 0)).setCell ⟨w.heap.size + 1 + 1, 3, none⟩ (.int .u32 0)).setCell ⟨w.heap.size + 1 + 1, 4, none⟩ (.int .u32 0)).setCell ⟨w.heap.size + 1 + 1, 5, none⟩ (.int .u32 0)).setCell ⟨w.heap.size + 1 + 1, 6, none⟩ (.int .u32 0)).setCell ⟨w.heap.size + 1 + 1, 7, none⟩ (.int .u32 0)).setCell ⟨w.heap.size + 1 + 1, 8, none⟩ (.bool false)).setCell ⟨w.heap.size + 1 + 1, 9, none⟩ (.bool false)) = w20 := hw20
  rw [hw20']
  clear hw20 hw20' hQ1 hQ2 hPP hUU HS5 HP5 HU5 HI5
  obtain ⟨y0, y1, y2, y3, y4, y5, y6, y7, y8, y9⟩ := Blk.cells10 HQ2.out
  obtain ⟨n0', n1, n2, n3, n4, n5, n6, n7, n8, n9, n10, n11, n12⟩ := Blk.cells13 HQ1.out
  simp only [zL] at y0 y1 y2 y3 y4 y5 y6 y7 y8 y9
  exact bodyPost_ret (v := rV5 ⟨x, zL, st, er, m2⟩) (by simp [results, Tryd.results41, go_sem, n0', n1, n2, n3, n4, n5, n6, n7, n8, n9, n10, n11, n12, y0, y1, y2, y3, y4, y5, y6, y7, y8, y9, zL]) rfl ⟨rfl, HPP.out, HU.out⟩
/-- The boxes behind the instruction: the state, both results, what comes, the instruction. -/
structure Lt (w : World) (n0 : Nat) (h : Hd) (m2 : St) (s x : S) (g gi : Nat) (k D N M : Nat) (i : Int) (W : World) : Prop where
  bb : Ls w s W
  bx : Blk W g 51 (sC x)
  bi : Blk W gi 58 (iC k D N M i)
  p : PP n0 h m2 W
  u : Upd h.X w W
  g0 : w.heap.size + 1 + 1 < g
  g1 : g < gi
  hB : ∀ k, h.B k → k < w.heap.size
section
variable {w W W' : World} {n0 : Nat} {h : Hd} {m2 : St} {s x : S} {g gi : Nat} {k D N M : Nat} {i : Int}
theorem Lt.below (r : Lt w n0 h m2 s x g gi k D N M i W) (hb : Below W.heap.size W W') : Lt w n0 h m2 s x g gi k D N M i W' :=
  ⟨r.bb.below hb, r.bx.below hb r.bx.lt, r.bi.below hb r.bi.lt, r.p.below hb, r.u.trans (Upd.of_below hb h.X), r.g0, r.g1, r.hB⟩
theorem Lt.drew (r : Lt w n0 h m2 s x g gi k D N M i W) : Lt w n0 h m2 s x g gi k D N M i W.drew := r.below (Below.drew (Below.refl _ _))
theorem Lt.set (r : Lt w n0 h m2 s x g gi k D N M i W) {gl : Nat} (hg : gi < gl) (j : Nat) (v : Value) : Lt w n0 h m2 s x g gi k D N M i (W.setCell ⟨gl, j, none⟩ v) := by
  have hu := upd_set W gl j v (Upd.refl _ W)
  have h0 := r.g0; have h1 := r.g1
  exact ⟨⟨r.bb.b0.upd hu (by omega), r.bb.b1.upd hu (by omega), r.bb.b2.upd hu (by omega)⟩, r.bx.upd hu (by omega), r.bi.upd hu (by omega), r.p.upd hu (fun k hk e => by have := r.hB k hk; omega), upd_b r.u hu (by omega), h0, h1, r.hB⟩
end
set_option maxRecDepth 100000 in
set_option maxHeartbeats 8000000 in
theorem lstepG (s x : S) (st : Bool) (n0 : Nat) (h : Hd) (m m2 : St) (w : World) (p : PP n0 h m w) (W0 : World) (hT0 : Tp.Tb W0) (hlo : Below W0.heap.size W0 w) (hn : W0.heap.size ≤ n0) (hC : ∀ W, PP n0 h m W → Tp.Tb W → Calls Tryd.prog 42 #[sv s, ptr h.r] W (SpEnd n0 h (x, st, 0, m2) W)) (f : Nat) (hf : f < 65536) (hfe : fetchV m2 (s.pc.toNat : Int) = ((f : Int), 0)) (k D N M : Nat) (i : Int) (hw : Wi k D N M i) (htf : Tp.takeF 21 0 f = (k, ⟨D, N, M, i⟩, 0)) :
    Calls Tryd.prog 41 #[sv s, ptr h.r] w (LkEnd n0 h ⟨x, lkV k D N M i f s x (BitVec.ofInt 32 m.b), st, 0, m2⟩ w) := by
  have hbu := bus_u p.fit
  have hlk : lkV k D N M i f s x (BitVec.ofInt 32 m.b) = _ := rfl
  conv at hlk => rhs; unfold lkV
  rw [hlk]
  clear hlk
  have hO := fun W => onBus n0 h m W
  rw [hbu] at hO
  generalize BitVec.ofInt 32 m.b = bs at *
  have hH := fun W t => handled k D N M i hw s x bs W t
  have hA := fun W => address k D N M i hw s W
  have hL := fun a b r o W => leaked a b r o bs W
  generalize opA k D N M s = a at *
  generalize opB k D N M (BitVec.ofInt 32 i) s = b at *
  generalize resR k D N M i s x = r at *
  generalize oldR k D i s = o at *
  generalize adV k N M (BitVec.ofInt 32 i) s = ad at *
  generalize meB k = me at *
  have hpt : ((ad.toNat : Int) == 1073741824) = (ad == 1073741824#32) := eq_u ad 1073741824#32
  generalize (ad == 1073741824#32) = pt at *
  have hX : ∀ k, h.X k → k < w.heap.size := fun k hk => (p.lt (Hd.XB hk)).2
  have hBB : ∀ k, h.B k → k < w.heap.size := fun k hk => (p.lt hk).2
  have hF := fun W p => Mm.fetch n0 h m2 W (s.pc.toNat : Int) p
  rw [hfe] at hF
  have HX := Lib.hid hX; have HBB := Lib.hid hBB; have HP := Lib.hid p; have HT := Lib.hid (hT0.below hlo); have HBK := Lib.hid (show ∀ W', Upd h.X w W' → Tp.Tb W' from fun W' hu => hT0.below (back hlo hu (fun k hk => Nat.le_trans hn (p.X_low k hk)))); have HC := Lib.hid hC; have HF := Lib.hid hF
  have HO := Lib.hid hO; have HH := Lib.hid hH; have HA := Lib.hid hA; have HL := Lib.hid hL; have HTF := Lib.hid htf; have HHF := Lib.hid hf
  obtain ⟨hls, hbel⟩ := ls_new w s
  have HS := Lib.hid hls; have HB := Lib.hid hbel
  clear hX hBB p hT0 hlo hn hC hF hfe hO hH hA hL htf hf hw hbu hls hbel
  go_enter Tryd.func41, Tryd.ntmps41
  go_upto_region 1 with fail
  obtain ⟨w1, hw1⟩ : ∃ w1, w1 = (((w.alloc (.cells (sC s) 51)).alloc (.cells (sC zS) 51)).alloc (.cells (lC zL) 39)) := ⟨_, rfl⟩
  rw [← hw1] at HS HB
  have hw1' : w1 = (((w.alloc (.cells (sC s) 51)).alloc (.cells #[.int .u32 0, .int .u32 0, .int .u32 0, .int .u32 0, .int .u32 0, .int .u32 0, .int .u32 0, .int .u32 0, .int .u32 0, .bool false, .bool false, .bool false, .bool false] 51)).alloc (.cells #[.int .u32 0, .int .u16 0, .int .u32 0, .int .u32 0, .int .u32 0, .int .u32 0, .int .u32 0, .int .u32 0, .bool false, .bool false] 39)) := hw1
  rw [← hw1']
  clear hw1 hw1'
  go_wp2_with fail
  refine (HO.out _ (HP.out.below HB.out)).mono ?_
  rintro e w1' ⟨rfl, rfl⟩
  obtain ⟨n0', n1, n2, n3, n4, n5, n6, n7, n8, n9, n10, n11, n12⟩ := Blk.cells13 HS.out.b0
  go_wp2_with fail
  refine (HC.out _ (HP.out.below HB.out) (HT.out.below HB.out)).mono ?_
  rintro e w4 ⟨rfl, hp4, hu4⟩
  have HS4 := Lib.hid (HS.out.upd hu4 HX.out)
  have HU4 := Lib.hid ((Upd.of_below HB.out h.X).trans hu4)
  have HP4 := Lib.hid hp4
  clear n0' n1 n2 n3 n4 n5 n6 n7 n8 n9 n10 n11 n12 hp4 hu4 HS HB HC
  go_upto_region 3 with fail
  have hx : Below w4.heap.size w4 (w4.alloc (.cells (sC x) 51)) := (Below.refl _ _).alloc (Nat.le_refl _) _
  have HS5 := Lib.hid (HS4.out.below hx)
  have HU5 := Lib.hid (HU4.out.trans (Upd.of_below hx h.X))
  have HP5 := Lib.hid (HP4.out.below hx)
  have HI5 := Lib.hid (Blk.new w4 51 (sC x))
  have HG := Lib.hid (show w.heap.size + 1 + 1 < w4.heap.size from HS4.out.b2.lt)
  have HT5 := Lib.hid (HBK.out _ HU5.out)
  obtain ⟨w5, hw5⟩ : ∃ w5, w4.alloc (.cells (sC x) 51) = w5 := ⟨_, rfl⟩
  rw [hw5] at HS5 HU5 HP5 HI5 HT5
  simp only [sC] at hw5
  rw [hw5]
  generalize w4.heap.size = g at *
  clear hw5 hx HS4 HU4 HP4 HBK
  have sp : w5.cell? ⟨w.heap.size, 8, none⟩ = some (u s.pc) := HS5.out.b0.cell 8
  go_wp2_with fail
  refine (HF.out _ HP5.out).mono ?_
  rintro e w6' ⟨rfl, nq, rfl⟩
  have hd := below_drewN (Below.refl w5.heap.size w5) nq
  have HS6 := Lib.hid (HS5.out.drewN nq)
  have HU6 := Lib.hid (HU5.out.drewN nq)
  have HP6 := Lib.hid (show PP n0 h m2 (w5.drewN nq) from HP5.out.below hd)
  have HI6 := Lib.hid (HI5.out.drewN nq)
  have HT6 := Lib.hid (HT5.out.below hd)
  generalize w5.drewN nq = w6 at *
  clear sp hd HS5 HU5 HP5 HI5 HF HT5
  go_wp2_with fail
  refine (Tp.takeP f HHF.out _ HT6.out).mono ?_
  rintro e w7 ⟨rfl, hb⟩
  rw [HTF.out, show Tp.resV (k, ⟨D, N, M, i⟩, 0) = .tuple #[.agg #[.int .i64 (k : Nat), .int .i64 D, .int .i64 N, .int .i64 M, .int .i64 i], .int .i64 (0 : Nat)] from rfl]
  have HS7 := Lib.hid (HS6.out.below hb)
  have HU7 := Lib.hid (HU6.out.trans (Upd.of_below hb h.X))
  have HP7 := Lib.hid (HP6.out.below hb)
  have HI7 := Lib.hid (HI6.out.below hb HI6.out.lt)
  have HT7 := Lib.hid (HT6.out.below hb)
  clear hb HS6 HU6 HP6 HI6 HT6
  go_upto_region 7 with fail
  have hx : Below w7.heap.size w7 (w7.alloc (.cells (iC k D N M i) 58)) := (Below.refl _ _).alloc (Nat.le_refl _) _
  have HK8 := Lib.hid (show Lt w n0 h m2 s x g w7.heap.size k D N M i (w7.alloc (.cells (iC k D N M i) 58)) from
    ⟨HS7.out.below hx, HI7.out.below hx HI7.out.lt, Blk.new w7 58 (iC k D N M i), HP7.out.below hx, HU7.out.trans (Upd.of_below hx h.X), HG.out, HI7.out.lt, HBB.out⟩)
  have HT8 := Lib.hid (HT7.out.below hx)
  obtain ⟨w8, hw8⟩ : ∃ w8, w7.alloc (.cells (iC k D N M i) 58) = w8 := ⟨_, rfl⟩
  rw [hw8] at HK8 HT8
  have hw8' : w7.alloc (.cells #[.int .i64 k, .int .i64 D, .int .i64 N, .int .i64 M, .int .i64 i] 58) = w8 := hw8
  rw [hw8']
  generalize w7.heap.size = gi at *
  clear hw8 hw8' hx HS7 HU7 HP7 HI7 HT7 HG
  obtain ⟨n0', n1, n2, n3, n4, n5, n6, n7, n8, n9, n10, n11, n12⟩ := Blk.cells13 HK8.out.bb.b0
  have i0 := HK8.out.bi.cell 0; have i1 := HK8.out.bi.cell 1; have i2 := HK8.out.bi.cell 2; have i3 := HK8.out.bi.cell 3; have i4 := HK8.out.bi.cell 4
  simp at i0 i1 i2 i3 i4
  obtain ⟨z0, z1, z2, z3, z4, z5, z6, z7, z8, z9, z10, z11, z12⟩ := Blk.cells13 HK8.out.bx
  go_wp2_with fail
  refine (HH.out _ HT8.out).mono ?_
  rintro e w9 ⟨rfl, hb⟩
  have HK9 := Lib.hid (HK8.out.below hb)
  clear z0 z1 z2 z3 z4 z5 z6 z7 z8 z9 z10 z11 z12 hb HK8 HH HT8
  clear n0' n1 n2 n3 n4 n5 n6 n7 n8 n9 n10 n11 n12 i0 i1 i2 i3 i4
  go_wp2_with fail
  refine (HL.out a b r o _).mono ?_
  rintro e w10 ⟨rfl, hb⟩
  have HK10 := Lib.hid (HK9.out.below hb)
  clear hb HK9 HL
  go_upto_region 8 with fail
  have hx : Below w10.heap.size w10 (w10.alloc (.cells #[u 0#32, .int .u16 ((0 : Nat) : Int), u a, u b, u r, u o, u bs, u 0#32, .bool false, .bool false] 39)) := (Below.refl _ _).alloc (Nat.le_refl _) _
  have HK11 := Lib.hid (HK10.out.below hx)
  have HZ11 := Lib.hid (Blk.new w10 39 #[u 0#32, .int .u16 ((0 : Nat) : Int), u a, u b, u r, u o, u bs, u 0#32, .bool false, .bool false])
  have HGL := Lib.hid (show gi < w10.heap.size from HK10.out.bi.lt)
  obtain ⟨w11, hw11⟩ : ∃ w11, w10.alloc (.cells #[u 0#32, .int .u16 ((0 : Nat) : Int), u a, u b, u r, u o, u bs, u 0#32, .bool false, .bool false] 39) = w11 := ⟨_, rfl⟩
  rw [hw11] at HK11 HZ11
  have hw11' : w10.alloc (.cells #[.int .u32 0, .int .u16 0, u a, u b, u r, u o, u bs, .int .u32 0, .bool false, .bool false] 39) = w11 := hw11
  rw [hw11']
  generalize w10.heap.size = gl at *
  clear hw11 hw11' hx HK10
  have q0 : w.heap.size < gl := by have h0 := HK11.out.g0; have h1 := HK11.out.g1; have h2 := HGL.out; omega
  have q1 : gi < gl := HGL.out
  have sp : w11.cell? ⟨w.heap.size, 8, none⟩ = some (u s.pc) := HK11.out.bb.b0.cell 8
  have y0 : w11.cell? ⟨gl, 0, none⟩ = some (u 0#32) := HZ11.out.cell 0
  have y1 : w11.cell? ⟨gl, 1, none⟩ = some (.int .u16 0) := HZ11.out.cell 1
  have f0 := HZ11.out.frozen 0; have f1 := HZ11.out.frozen 1
  go_upto_region 9 with fail
  have HK12 := Lib.hid ((HK11.out.set HGL.out 0 (u s.pc)).set HGL.out 1 (.int .u16 (f : Int)))
  have HZ12 := Lib.hid (blk_one (cs' := #[u s.pc, .int .u16 (f : Int), u a, u b, u r, u o, u bs, u 0#32, .bool false, .bool false]) (blk_one (cs' := #[u s.pc, .int .u16 ((0 : Nat) : Int), u a, u b, u r, u o, u bs, u 0#32, .bool false, .bool false]) HZ11.out 0 (u s.pc) rfl) 1 (.int .u16 (f : Int)) rfl)
  obtain ⟨w12, hw12⟩ : ∃ w12, (w11.setCell ⟨gl, 0, none⟩ (u s.pc)).setCell ⟨gl, 1, none⟩ (.int .u16 (f : Int)) = w12 := ⟨_, rfl⟩
  rw [hw12] at HK12 HZ12
  rw [hw12]
  clear hw12 HK11 HZ11 sp y0 y1 f0 f1
  obtain ⟨n0', n1, n2, n3, n4, n5, n6, n7, n8, n9, n10, n11, n12⟩ := Blk.cells13 HK12.out.bb.b0
  have i0 := HK12.out.bi.cell 0; have i1 := HK12.out.bi.cell 1; have i2 := HK12.out.bi.cell 2; have i3 := HK12.out.bi.cell 3; have i4 := HK12.out.bi.cell 4
  simp at i0 i1 i2 i3 i4
  go_wp2_with fail
  refine (HA.out _).mono ?_
  rintro e w13 ⟨rfl, hb⟩
  have HK13 := Lib.hid (HK12.out.below hb)
  have HZ13 := Lib.hid (HZ12.out.below hb HZ12.out.lt)
  clear hb HK12 HZ12 HA
  clear n0' n1 n2 n3 n4 n5 n6 n7 n8 n9 n10 n11 n12 i0 i1 i2 i3 i4
  have y7 : w13.cell? ⟨gl, 7, none⟩ = some (u 0#32) := HZ13.out.cell 7
  have y8 : w13.cell? ⟨gl, 8, none⟩ = some (.bool false) := HZ13.out.cell 8
  have f7 := HZ13.out.frozen 7; have f8 := HZ13.out.frozen 8
  go_upto_region 10 with fail
  have HK14 := Lib.hid ((HK13.out.set HGL.out 7 (u ad)).set HGL.out 8 (.bool me))
  have HZ14 := Lib.hid (blk_one (cs' := #[u s.pc, .int .u16 (f : Int), u a, u b, u r, u o, u bs, u ad, .bool me, .bool false]) (blk_one (cs' := #[u s.pc, .int .u16 (f : Int), u a, u b, u r, u o, u bs, u ad, .bool false, .bool false]) HZ13.out 7 (u ad) rfl) 8 (.bool me) rfl)
  obtain ⟨w14, hw14⟩ : ∃ w14, (w13.setCell ⟨gl, 7, none⟩ (u ad)).setCell ⟨gl, 8, none⟩ (.bool me) = w14 := ⟨_, rfl⟩
  rw [hw14] at HK14 HZ14
  rw [hw14]
  clear hw14 HK13 HZ13 y7 y8 f7 f8
  have y7 : w14.cell? ⟨gl, 7, none⟩ = some (u ad) := HZ14.out.cell 7
  have y8 : w14.cell? ⟨gl, 8, none⟩ = some (.bool me) := HZ14.out.cell 8
  have y9 : w14.cell? ⟨gl, 9, none⟩ = some (.bool false) := HZ14.out.cell 9
  have f9 := HZ14.out.frozen 9
  have hq3 : w.heap.size + 1 + 1 < gl := by have h0 := HK14.out.g0; have h1 := HK14.out.g1; have h2 := HGL.out; omega
  have hq4 : g < gl := by have h1 := HK14.out.g1; have h2 := HGL.out; omega
  have hq5 : w.heap.size + 1 + 1 < g := HK14.out.g0
  cases me
  · clear hpt
    go_upto_region 11 with fail
    have HK15 := Lib.hid (HK14.out.set HGL.out 9 (.bool false))
    have HZ15 := Lib.hid (blk_one (cs' := lC ⟨s.pc, f, a, b, r, o, bs, ad, false, false⟩) HZ14.out 9 (.bool false) rfl)
    obtain ⟨w15, hw15⟩ : ∃ w15, w14.setCell ⟨gl, 9, none⟩ (.bool false) = w15 := ⟨_, rfl⟩
    rw [hw15] at HK15 HZ15
    rw [hw15]
    clear hw15 HK14 HZ14 y7 y8 y9 f9
    obtain ⟨y0, y1, y2, y3, y4, y5, y6, y7, y8, y9⟩ := Blk.cells10 HZ15.out
    obtain ⟨n0', n1, n2, n3, n4, n5, n6, n7, n8, n9, n10, n11, n12⟩ := Blk.cells13 HK15.out.bx
    obtain ⟨z0, z1, z2, z3, z4, z5, z6, z7, z8, z9, z10, z11, z12⟩ := Blk.cells13 HK15.out.bb.b1
    obtain ⟨f0, f1, f2, f3, f4, f5, f6, f7, f8, f9, f10, f11, f12⟩ := Blk.frozen13 HK15.out.bb.b1
    obtain ⟨x0, x1, x2, x3, x4, x5, x6, x7, x8, x9⟩ := Blk.cells10 HK15.out.bb.b2
    obtain ⟨k0, k1', k2, k3, k4', k5, k6, k7, k8', k9⟩ := Blk.frozen10 HK15.out.bb.b2
    go_region
    obtain ⟨w20, hw20, hQ1, hQ2, hPP, hUU⟩ := Ls.fin HK15.out.bb HK15.out.p HK15.out.u HK15.out.hB x ⟨s.pc, f, a, b, r, o, bs, ad, false, false⟩
    have HU := Lib.hid hUU.drew; have HPP := Lib.hid hPP.drew; have HQ1 := Lib.hid hQ1.drew; have HQ2 := Lib.hid hQ2.drew
    have hw20' : (((((((((((((((((((((((w15.setCell ⟨w.heap.size + 1, 0, none⟩ (u (x.r 0))).setCell ⟨w.heap.size + 1, 1, none⟩ (u (x.r 1))).setCell ⟨w.heap.size + 1, 2, none⟩ (u (x.r 2))).setCell ⟨w.heap.size + 1, 3, none⟩ (u (x.r 3))).setCell ⟨w.heap.size + 1, 4, none⟩ (u (x.r 4))).setCell ⟨w.heap.size + 1, 5, none⟩ (u (x.r 5))).setCell ⟨w.heap.size + 1, 6, none⟩ (u (x.r 6))).setCell ⟨w.heap.size + 1, 7, none⟩ (u (x.r 7))).setCell ⟨w.heap.size + 1, 8, none⟩ (u x.pc)).setCell ⟨w.heap.size + 1, 9, none⟩ (.bool x.n)).setCell ⟨w.heap.size + 1, 10, none⟩ (.bool x.z)).setCell ⟨w.heap.size + 1, 11, none⟩ (.bool x.c)).setCell ⟨w.heap.size + 1, 12, none⟩ (.bool x.v)).setCell ⟨w.heap.size + 1 + 1, 0, none⟩ (u s.pc)).setCell ⟨w.heap.size + 1 + 1, 1, none⟩ (.int .u16 (f : Int))).setCell ⟨w.heap.size + 1 + 1, 2, none⟩ (u a)).setCell ⟨w.heap.size + 1 + 1, 3, none⟩ (u b)).setCell ⟨w.heap.size + 1 + 1, 4, none⟩ (u r)).setCell ⟨w.heap.size + 1 + 1, 5, none⟩ (u o)).setCell ⟨w.heap.size + 1 + 1, 6, none⟩ (u bs)).setCell ⟨w.heap.size + 1 + 1, 7, none⟩ (u ad)).setCell ⟨w.heap.size + 1 + 1, 8, none⟩ (.bool false)).setCell ⟨w.heap.size + 1 + 1, 9, none⟩ (.bool false)) = w20 := hw20
    rw [hw20']
    clear hw20 hw20' hQ1 hQ2 hPP hUU z0 z1 z2 z3 z4 z5 z6 z7 z8 z9 z10 z11 z12 f0 f1 f2 f3 f4 f5 f6 f7 f8 f9 f10 f11 f12 x0 x1 x2 x3 x4 x5 x6 x7 x8 x9 k0 k1' k2 k3 k4' k5 k6 k7 k8' k9 y0 y1 y2 y3 y4 y5 y6 y7 y8 y9 n0' n1 n2 n3 n4 n5 n6 n7 n8 n9 n10 n11 n12 HK15 HZ15
    generalize w20.drew = w21 at *
    obtain ⟨y0, y1, y2, y3, y4, y5, y6, y7, y8, y9⟩ := Blk.cells10 HQ2.out
    obtain ⟨n0', n1, n2, n3, n4, n5, n6, n7, n8, n9, n10, n11, n12⟩ := Blk.cells13 HQ1.out
    go_wp2_with fail
    exact bodyPost_ret (v := rV5 ⟨x, ⟨s.pc, f, a, b, r, o, bs, ad, false, false⟩, st, 0, m2⟩) (by simp [results, Tryd.results41, go_sem, n0', n1, n2, n3, n4, n5, n6, n7, n8, n9, n10, n11, n12, y0, y1, y2, y3, y4, y5, y6, y7, y8, y9]) rfl ⟨rfl, HPP.out, HU.out⟩
  · cases pt
    · go_upto_region 11 with fail
      have HK15 := Lib.hid (HK14.out.set HGL.out 9 (.bool false))
      have HZ15 := Lib.hid (blk_one (cs' := lC ⟨s.pc, f, a, b, r, o, bs, ad, true, false⟩) HZ14.out 9 (.bool false) rfl)
      obtain ⟨w15, hw15⟩ : ∃ w15, w14.setCell ⟨gl, 9, none⟩ (.bool false) = w15 := ⟨_, rfl⟩
      rw [hw15] at HK15 HZ15
      rw [hw15]
      clear hw15 HK14 HZ14 y7 y8 y9 f9
      obtain ⟨y0, y1, y2, y3, y4, y5, y6, y7, y8, y9⟩ := Blk.cells10 HZ15.out
      obtain ⟨n0', n1, n2, n3, n4, n5, n6, n7, n8, n9, n10, n11, n12⟩ := Blk.cells13 HK15.out.bx
      obtain ⟨z0, z1, z2, z3, z4, z5, z6, z7, z8, z9, z10, z11, z12⟩ := Blk.cells13 HK15.out.bb.b1
      obtain ⟨f0, f1, f2, f3, f4, f5, f6, f7, f8, f9, f10, f11, f12⟩ := Blk.frozen13 HK15.out.bb.b1
      obtain ⟨x0, x1, x2, x3, x4, x5, x6, x7, x8, x9⟩ := Blk.cells10 HK15.out.bb.b2
      obtain ⟨k0, k1', k2, k3, k4', k5, k6, k7, k8', k9⟩ := Blk.frozen10 HK15.out.bb.b2
      go_region
      obtain ⟨w20, hw20, hQ1, hQ2, hPP, hUU⟩ := Ls.fin HK15.out.bb HK15.out.p HK15.out.u HK15.out.hB x ⟨s.pc, f, a, b, r, o, bs, ad, true, false⟩
      have HU := Lib.hid hUU.drew; have HPP := Lib.hid hPP.drew; have HQ1 := Lib.hid hQ1.drew; have HQ2 := Lib.hid hQ2.drew
      have hw20' : (((((((((((((((((((((((w15.setCell ⟨w.heap.size + 1, 0, none⟩ (u (x.r 0))).setCell ⟨w.heap.size + 1, 1, none⟩ (u (x.r 1))).setCell ⟨w.heap.size + 1, 2, none⟩ (u (x.r 2))).setCell ⟨w.heap.size + 1, 3, none⟩ (u (x.r 3))).setCell ⟨w.heap.size + 1, 4, none⟩ (u (x.r 4))).setCell ⟨w.heap.size + 1, 5, none⟩ (u (x.r 5))).setCell ⟨w.heap.size + 1, 6, none⟩ (u (x.r 6))).setCell ⟨w.heap.size + 1, 7, none⟩ (u (x.r 7))).setCell ⟨w.heap.size + 1, 8, none⟩ (u x.pc)).setCell ⟨w.heap.size + 1, 9, none⟩ (.bool x.n)).setCell ⟨w.heap.size + 1, 10, none⟩ (.bool x.z)).setCell ⟨w.heap.size + 1, 11, none⟩ (.bool x.c)).setCell ⟨w.heap.size + 1, 12, none⟩ (.bool x.v)).setCell ⟨w.heap.size + 1 + 1, 0, none⟩ (u s.pc)).setCell ⟨w.heap.size + 1 + 1, 1, none⟩ (.int .u16 (f : Int))).setCell ⟨w.heap.size + 1 + 1, 2, none⟩ (u a)).setCell ⟨w.heap.size + 1 + 1, 3, none⟩ (u b)).setCell ⟨w.heap.size + 1 + 1, 4, none⟩ (u r)).setCell ⟨w.heap.size + 1 + 1, 5, none⟩ (u o)).setCell ⟨w.heap.size + 1 + 1, 6, none⟩ (u bs)).setCell ⟨w.heap.size + 1 + 1, 7, none⟩ (u ad)).setCell ⟨w.heap.size + 1 + 1, 8, none⟩ (.bool true)).setCell ⟨w.heap.size + 1 + 1, 9, none⟩ (.bool false)) = w20 := hw20
      rw [hw20']
      clear hw20 hw20' hQ1 hQ2 hPP hUU z0 z1 z2 z3 z4 z5 z6 z7 z8 z9 z10 z11 z12 f0 f1 f2 f3 f4 f5 f6 f7 f8 f9 f10 f11 f12 x0 x1 x2 x3 x4 x5 x6 x7 x8 x9 k0 k1' k2 k3 k4' k5 k6 k7 k8' k9 y0 y1 y2 y3 y4 y5 y6 y7 y8 y9 n0' n1 n2 n3 n4 n5 n6 n7 n8 n9 n10 n11 n12 HK15 HZ15
      generalize w20.drew = w21 at *
      obtain ⟨y0, y1, y2, y3, y4, y5, y6, y7, y8, y9⟩ := Blk.cells10 HQ2.out
      obtain ⟨n0', n1, n2, n3, n4, n5, n6, n7, n8, n9, n10, n11, n12⟩ := Blk.cells13 HQ1.out
      go_wp2_with fail
      exact bodyPost_ret (v := rV5 ⟨x, ⟨s.pc, f, a, b, r, o, bs, ad, true, false⟩, st, 0, m2⟩) (by simp [results, Tryd.results41, go_sem, n0', n1, n2, n3, n4, n5, n6, n7, n8, n9, n10, n11, n12, y0, y1, y2, y3, y4, y5, y6, y7, y8, y9]) rfl ⟨rfl, HPP.out, HU.out⟩
    · go_upto_region 11 with fail
      have HK15 := Lib.hid (HK14.out.set HGL.out 9 (.bool true))
      have HZ15 := Lib.hid (blk_one (cs' := lC ⟨s.pc, f, a, b, r, o, bs, ad, true, true⟩) HZ14.out 9 (.bool true) rfl)
      obtain ⟨w15, hw15⟩ : ∃ w15, w14.setCell ⟨gl, 9, none⟩ (.bool true) = w15 := ⟨_, rfl⟩
      rw [hw15] at HK15 HZ15
      rw [hw15]
      clear hw15 HK14 HZ14 y7 y8 y9 f9
      obtain ⟨y0, y1, y2, y3, y4, y5, y6, y7, y8, y9⟩ := Blk.cells10 HZ15.out
      obtain ⟨n0', n1, n2, n3, n4, n5, n6, n7, n8, n9, n10, n11, n12⟩ := Blk.cells13 HK15.out.bx
      obtain ⟨z0, z1, z2, z3, z4, z5, z6, z7, z8, z9, z10, z11, z12⟩ := Blk.cells13 HK15.out.bb.b1
      obtain ⟨f0, f1, f2, f3, f4, f5, f6, f7, f8, f9, f10, f11, f12⟩ := Blk.frozen13 HK15.out.bb.b1
      obtain ⟨x0, x1, x2, x3, x4, x5, x6, x7, x8, x9⟩ := Blk.cells10 HK15.out.bb.b2
      obtain ⟨k0, k1', k2, k3, k4', k5, k6, k7, k8', k9⟩ := Blk.frozen10 HK15.out.bb.b2
      go_region
      obtain ⟨w20, hw20, hQ1, hQ2, hPP, hUU⟩ := Ls.fin HK15.out.bb HK15.out.p HK15.out.u HK15.out.hB x ⟨s.pc, f, a, b, r, o, bs, ad, true, true⟩
      have HU := Lib.hid hUU.drew; have HPP := Lib.hid hPP.drew; have HQ1 := Lib.hid hQ1.drew; have HQ2 := Lib.hid hQ2.drew
      have hw20' : (((((((((((((((((((((((w15.setCell ⟨w.heap.size + 1, 0, none⟩ (u (x.r 0))).setCell ⟨w.heap.size + 1, 1, none⟩ (u (x.r 1))).setCell ⟨w.heap.size + 1, 2, none⟩ (u (x.r 2))).setCell ⟨w.heap.size + 1, 3, none⟩ (u (x.r 3))).setCell ⟨w.heap.size + 1, 4, none⟩ (u (x.r 4))).setCell ⟨w.heap.size + 1, 5, none⟩ (u (x.r 5))).setCell ⟨w.heap.size + 1, 6, none⟩ (u (x.r 6))).setCell ⟨w.heap.size + 1, 7, none⟩ (u (x.r 7))).setCell ⟨w.heap.size + 1, 8, none⟩ (u x.pc)).setCell ⟨w.heap.size + 1, 9, none⟩ (.bool x.n)).setCell ⟨w.heap.size + 1, 10, none⟩ (.bool x.z)).setCell ⟨w.heap.size + 1, 11, none⟩ (.bool x.c)).setCell ⟨w.heap.size + 1, 12, none⟩ (.bool x.v)).setCell ⟨w.heap.size + 1 + 1, 0, none⟩ (u s.pc)).setCell ⟨w.heap.size + 1 + 1, 1, none⟩ (.int .u16 (f : Int))).setCell ⟨w.heap.size + 1 + 1, 2, none⟩ (u a)).setCell ⟨w.heap.size + 1 + 1, 3, none⟩ (u b)).setCell ⟨w.heap.size + 1 + 1, 4, none⟩ (u r)).setCell ⟨w.heap.size + 1 + 1, 5, none⟩ (u o)).setCell ⟨w.heap.size + 1 + 1, 6, none⟩ (u bs)).setCell ⟨w.heap.size + 1 + 1, 7, none⟩ (u ad)).setCell ⟨w.heap.size + 1 + 1, 8, none⟩ (.bool true)).setCell ⟨w.heap.size + 1 + 1, 9, none⟩ (.bool true)) = w20 := hw20
      rw [hw20']
      clear hw20 hw20' hQ1 hQ2 hPP hUU z0 z1 z2 z3 z4 z5 z6 z7 z8 z9 z10 z11 z12 f0 f1 f2 f3 f4 f5 f6 f7 f8 f9 f10 f11 f12 x0 x1 x2 x3 x4 x5 x6 x7 x8 x9 k0 k1' k2 k3 k4' k5 k6 k7 k8' k9 y0 y1 y2 y3 y4 y5 y6 y7 y8 y9 n0' n1 n2 n3 n4 n5 n6 n7 n8 n9 n10 n11 n12 HK15 HZ15
      generalize w20.drew = w21 at *
      obtain ⟨y0, y1, y2, y3, y4, y5, y6, y7, y8, y9⟩ := Blk.cells10 HQ2.out
      obtain ⟨n0', n1, n2, n3, n4, n5, n6, n7, n8, n9, n10, n11, n12⟩ := Blk.cells13 HQ1.out
      go_wp2_with fail
      exact bodyPost_ret (v := rV5 ⟨x, ⟨s.pc, f, a, b, r, o, bs, ad, true, true⟩, st, 0, m2⟩) (by simp [results, Tryd.results41, go_sem, n0', n1, n2, n3, n4, n5, n6, n7, n8, n9, n10, n11, n12, y0, y1, y2, y3, y4, y5, y6, y7, y8, y9]) rfl ⟨rfl, HPP.out, HU.out⟩
theorem lstep (s : S) (n0 : Nat) (h : Hd) (m : St) (w : World) (p : PP n0 h m w) (W0 : World) (hT0 : Tp.Tb W0) (hlo : Below W0.heap.size W0 w) (hn : W0.heap.size ≤ n0) : Calls Tryd.prog 41 #[sv s, ptr h.r] w (LkEnd n0 h (leakV s m) w) := by
  by_cases he : (stepV s m).2.2.1 = 0
  · obtain ⟨f, k, D, N, M, i, hf, hfe, htf, hw, hlk⟩ := step_ok s m p.fit he
    have hl : leakV s m = ⟨(stepV s m).1, lkOf s m (stepV s m).1, (stepV s m).2.1, 0, (stepV s m).2.2.2⟩ := by unfold leakV; rw [if_pos he]
    have hc := stepV_C s m
    have hC := fun W p hT => cstep s n0 h m W p hT
    rw [hl, hlk]
    rcases hq : stepV s m with ⟨x, st, er, m2⟩
    rw [hq] at hC he hc
    have he2 : er = 0 := he
    subst he2
    exact lstepG s x st n0 h m m2 w p W0 hT0 hlo hn hC f hf (by rw [fetchV_C hc, hfe]) k D N M i hw htf
  · exact lstepE s n0 h m w p (hT0.below hlo) he
end Go.Proofs.YtkafmpdjpjgkgaaDoor.Lk
