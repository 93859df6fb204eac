/- DERIVED. LkRb in one text. By an AI agent. -/
import Derived.Test.YtkafmpdjpjgkgaaDoorZ41
/- DERIVED. Of the reference's leak.Step: by what it does. By an AI agent. -/
namespace Go.Proofs.YtkafmpdjpjgkgaaDoor.Lk
open Go.ChangeShapes Go.WideShapes Go.ChangeAt Go.RowKit WMath Word Ref Args Mm MmR Co
set_option linter.unusedVariables false
set_option linter.unusedSimpArgs false
set_option maxRecDepth 100000 in
set_option maxHeartbeats 4000000 in
theorem rlk4 (s x : S) (st : Bool) (n0 : Nat) (h : Hd) (m m2 : St) (w : World) (p : RP n0 h m w) (hC : ∀ W, RP n0 h m W → Calls Tryd.prog 31 #[sv s, ptr h.r] W (RpEnd n0 h (x, st, 0, m2) W)) (f : Nat) (hf : f < 65536) (hfe : fetchV m2 (s.pc.toNat : Int) = ((f : Int), 0)) (k D N M : Nat) (i : Int) (hw : Wi k D N M i) (htf : Tp.takeF 21 0 f = (k, ⟨D, N, M, i⟩, 0)) (hk : 4 ≤ k ∧ k ≤ 6) :
    Calls Tryd.prog 22 #[sv s, ptr h.r] w (RkEnd n0 h ⟨x, lkV k D N M i f s x (BitVec.ofInt 32 m.b), st, 0, m2⟩ w) := by
  have hr : k = 4 ∨ k = 5 ∨ k = 6 := by omega
  have hlk : lkV k D N M i f s x (BitVec.ofInt 32 m.b) = ⟨s.pc, f, s.r M, BitVec.ofInt 32 i, x.r D, s.r D, BitVec.ofInt 32 m.b, 0#32, false, false⟩ := by rcases hr with rfl | rfl | rfl <;> rfl
  have hwr : ThRef.wrV k D N M i = .tuple #[.int .i64 D, .bool true] := by unfold ThRef.wrV; rw [hw.can]; rcases hr with rfl | rfl | rfl <;> rfl
  have hD : D < 8 := hw.d8 (by omega)
  have hM : M < 8 := hw.m8
  have e1 : ((k : Int) == 1) = false := by simp; omega
  have e7 : ((k : Int) == 7) = false := by simp; omega
  have e8 : ((k : Int) == 8) = false := by simp; omega
  have e9 : ((k : Int) == 9) = false := by simp; omega
  have e10 : ((k : Int) == 10) = false := by simp; omega
  have e11 : ((k : Int) == 11) = false := by simp; omega
  have e12 : ((k : Int) == 12) = false := by simp; omega
  have e13 : ((k : Int) == 13) = false := by simp; omega
  have e14 : ((k : Int) == 14) = false := by simp; omega
  have e15 : ((k : Int) == 15) = false := by simp; omega
  have e16 : ((k : Int) == 16) = false := by simp; omega
  have l3 : decide ((k : Int) ≤ 3) = false := by simp; omega
  have l6 : decide ((k : Int) ≤ 6) = true := by simp; omega
  have l10 : decide ((k : Int) ≤ 10) = true := by simp; omega
  have l16 : decide ((k : Int) ≤ 16) = true := by simp; omega
  have u1 : decide ((1 : Int) ≤ (k : Int)) = true := by simp; omega
  have u4 : decide ((4 : Int) ≤ (k : Int)) = true := by simp; omega
  have u7 : decide ((7 : Int) ≤ (k : Int)) = false := by simp; omega
  have u12 : decide ((12 : Int) ≤ (k : Int)) = false := by simp; omega
  clear hr hk
  rw [hlk]
  clear hlk
  have D2 : (D : Int) < 8 := by omega
  have M2 : (M : Int) < 8 := by omega
  have hwi := wrap_ofInt (i)
  generalize BitVec.ofInt 32 i = imm at *
  have hX : ∀ k, h.X k → k < w.heap.size := fun k hk => (p.lt (Hd.XB hk)).2
  have hBB : ∀ k, h.B k → k < w.heap.size := fun k hk => (p.lt hk).2
  have hbw : w.cell? ⟨h.r, 4, none⟩ = some (.int .u32 m.b) := p.blk.cell 4
  rw [bus_u p.fit] at hbw
  generalize BitVec.ofInt 32 m.b = bs at *
  have hF := fun W p => MmR.fetch n0 h m2 W (s.pc.toNat : Int) (by omega) (bd s.pc) p
  rw [hfe] at hF
  have hrlt := (p.lt (Hd.XB (.inl rfl))).2
  obtain ⟨hrk, hbel⟩ := ra_new w s
  have hbw1 := (hbel.cell (p := ⟨h.r, 4, none⟩) hrlt).trans hbw
  have HWR := Lib.hid hwr; have HTF := Lib.hid htf; have HHF := Lib.hid hf; have HX := Lib.hid hX; have HBB := Lib.hid hBB; have HP := Lib.hid p; have HC := Lib.hid hC; have HF := Lib.hid hF; have HS := Lib.hid hrk; have HB := Lib.hid hbel
  clear hX hBB hbw p hC hF hfe hwr htf hf hw hrk hbel hrlt
  go_enter Tryd.func22, Tryd.ntmps22
  go_upto_region 1 with fail
  obtain ⟨w1, hw1⟩ : ∃ w1, ra w s = w1 := ⟨_, rfl⟩
  unfold ra at hw1
  rw [hw1] at HS HB hbw1
  have hw1' : raL w s = w1 := hw1
  unfold raL at hw1'
  rw [hw1']
  clear hw1 hw1'
  obtain ⟨n0', n1, n2, n3, n4, n5, n6, n7, n8, n9, n10, n11, n12⟩ := Blk.cells13 HS.out.b0
  go_wp2_with fail
  refine (HC.out _ (HP.out.below HB.out)).mono ?_
  rintro e w4 ⟨rfl, hp4, hu4⟩
  have H4 := Lib.hid (Rb.new (HS.out.upd hu4 HX.out) hp4 ((Upd.of_below HB.out h.X).trans hu4) HBB.out x)
  clear n0' n1 n2 n3 n4 n5 n6 n7 n8 n9 n10 n11 n12 hp4 hu4 HS HB HC hbw1
  go_upto_region 3 with fail
  obtain ⟨w5, hw5, h5⟩ := H4.out
  have H5 := Lib.hid h5
  simp only [sC] at hw5
  rw [hw5]
  generalize w4.heap.size = g at *
  clear hw5 h5 H4
  have sp : w5.cell? ⟨w.heap.size, 8, none⟩ = some (u s.pc) := H5.out.bb.b0.cell 8
  go_wp2_with fail
  refine (HF.out _ H5.out.p).mono ?_
  rintro e w6' ⟨rfl, nq, rfl⟩
  have H6 := Lib.hid (H5.out.drewN nq)
  generalize w5.drewN nq = w6 at *
  clear sp H5 HF
  go_wp2_with fail
  refine (Tp.takeR f HHF.out _).mono ?_
  rintro e w7 ⟨rfl, hb⟩
  rw [HTF.out, show Tp.resV (k, ⟨D, N, M, i⟩, 0) = .tuple #[.agg #[.int .i64 (k : Nat), .int .i64 D, .int .i64 N, .int .i64 M, .int .i64 i], .int .i64 (0 : Nat)] from rfl]
  have H7 := Lib.hid (H6.out.below hb)
  clear hb H6
  go_upto_region 7 with fail
  obtain ⟨w8, hw8⟩ : ∃ w8, w7.alloc (.cells (iC k D N M i) 58) = w8 := ⟨_, rfl⟩
  have H8 := Lib.hid (H7.out.leak k D N M i #[u s.pc, .int .u16 (f : Int), u 0#32, u 0#32, u 0#32, u 0#32, u bs, u 0#32, .bool false, .bool false] hw8)
  have hw8' : w7.alloc (.cells #[.int .i64 k, .int .i64 D, .int .i64 N, .int .i64 M, .int .i64 i] 58) = w8 := hw8
  rw [hw8']
  have sp : w8.cell? ⟨w.heap.size, 8, none⟩ = some (u s.pc) := by rw [← hw8]; exact ((H7.out.bb.b0).alloc _).cell 8
  clear hw8 hw8' H7
  go_upto_region 8 with fail
  obtain ⟨w9, hw9, h9⟩ := H8.out
  have H9 := Lib.hid h9
  have hw9' : w8.alloc (.cells #[u s.pc, .int .u16 (f : Int), .int .u32 0, .int .u32 0, .int .u32 0, .int .u32 0, u bs, .int .u32 0, .bool false, .bool false] 39) = w9 := hw9
  rw [hw9']
  generalize w7.heap.size = gi at *
  generalize w8.heap.size = gl at *
  clear sp hw9 hw9' h9 H8 HP HX HBB
  have i0 : w9.cell? ⟨gi, 0, none⟩ = some (.int .i64 k) := H9.out.bi.cell 0
  have i4 : w9.cell? ⟨gi, 4, none⟩ = some (.int .i64 i) := H9.out.bi.cell 4
  go_quiet (fail)
  have HK10 := Lib.hid (H9.out.drewN nq)
  generalize w9.drewN nq = w10 at *
  clear i0 i4 H9
  have q0 : w.heap.size < gl := by have h0 := HK10.out.g0; have h1 := HK10.out.g1; have h2 := HK10.out.g2; omega
  have q1 : gi < gl := HK10.out.g2
  have q2 : g < gl := by have h1 := HK10.out.g1; have h2 := HK10.out.g2; omega
  obtain ⟨y0, y1, y2, y3, y4, y5, y6, y7, y8, y9, f2, f3, f4, f5, f7, f8, f9, i0, i1, i2, i3, i4, sp⟩ := rkAll HK10.out
  have sD := HK10.out.b0.reg D hD
  have sM := HK10.out.b0.reg M hM
  have xD := HK10.out.bx.reg D hD
  go_upto_region 29 with fail
  have HK11 := Lib.hid (show Rk w n0 h m2 s x g gi gl k D N M i #[u s.pc, .int .u16 (f : Int), u (s.r M), u imm, u 0#32, u 0#32, u bs, u 0#32, .bool false, .bool false] _ from ((((HK10.out.set 3 (u imm) rfl).set 2 (u (s.r M)) rfl).set 8 (.bool false) rfl).set 9 (.bool false) rfl))
  obtain ⟨w11, hw11⟩ : ∃ w11, ((((w10.setCell ⟨gl, 3, none⟩ (u imm)).setCell ⟨gl, 2, none⟩ (u (s.r M))).setCell ⟨gl, 8, none⟩ (.bool false)).setCell ⟨gl, 9, none⟩ (.bool false)) = w11 := ⟨_, rfl⟩
  rw [hw11] at HK11
  rw [hw11]
  clear hw11 HK10 y0 y1 y2 y3 y4 y5 y6 y7 y8 y9 f2 f3 f4 f5 f7 f8 f9 i0 i1 i2 i3 i4 sp sD sM xD
  obtain ⟨y0, y1, y2, y3, y4, y5, y6, y7, y8, y9, f2, f3, f4, f5, f7, f8, f9, i0, i1, i2, i3, i4, sp⟩ := rkAll HK11.out
  have sD := HK11.out.b0.reg D hD
  have sM := HK11.out.b0.reg M hM
  have xD := HK11.out.bx.reg D hD
  go_wp2_with fail
  refine (ThRef.writes k D N M i _).mono ?_
  rintro e w12 ⟨rfl, hb⟩
  rw [HWR.out]
  have HK12 := Lib.hid (HK11.out.below hb)
  clear hb HK11 y0 y1 y2 y3 y4 y5 y6 y7 y8 y9 f2 f3 f4 f5 f7 f8 f9 i0 i1 i2 i3 i4 sp sD sM xD
  obtain ⟨y0, y1, y2, y3, y4, y5, y6, y7, y8, y9, f2, f3, f4, f5, f7, f8, f9, i0, i1, i2, i3, i4, sp⟩ := rkAll HK12.out
  have sD := HK12.out.b0.reg D hD
  have sM := HK12.out.b0.reg M hM
  have xD := HK12.out.bx.reg D hD
  go_upto_region 31 with fail
  go_region
  have HK13 := Lib.hid (show Rk w n0 h m2 s x g gi gl k D N M i #[u s.pc, .int .u16 (f : Int), u (s.r M), u imm, u (x.r D), u (s.r D), u bs, u 0#32, .bool false, .bool false] _ from ((HK12.out.set 4 (u (x.r D)) rfl).set 5 (u (s.r D)) rfl).drew)
  obtain ⟨w13, hw13⟩ : ∃ w13, ((w12.setCell ⟨gl, 4, none⟩ (u (x.r D))).setCell ⟨gl, 5, none⟩ (u (s.r D))).drew = w13 := ⟨_, rfl⟩
  rw [hw13] at HK13
  rw [hw13]
  clear hw13 HK12 y0 y1 y2 y3 y4 y5 y6 y7 y8 y9 f2 f3 f4 f5 f7 f8 f9 i0 i1 i2 i3 i4 sp sD sM xD
  obtain ⟨y0, y1, y2, y3, y4, y5, y6, y7, y8, y9, f2, f3, f4, f5, f7, f8, f9, i0, i1, i2, i3, i4, sp⟩ := rkAll HK13.out
  have sD := HK13.out.b0.reg D hD
  have sM := HK13.out.b0.reg M hM
  have xD := HK13.out.bx.reg D hD
  go_upto_region 40 with fail
  clear y0 y1 y2 y3 y4 y5 y6 y7 y8 y9 f2 f3 f4 f5 f7 f8 f9 i0 i1 i2 i3 i4 sp sD sM xD
  obtain ⟨⟨y0, y1, y2, y3, y4, y5, y6, y7, y8, y9⟩, ⟨n0', n1, n2, n3, n4, n5, n6, n7, n8, n9, n10, n11, n12⟩, q3, q4⟩ := rkLast HK13.out
  obtain ⟨z0, z1, z2, z3, z4, z5, z6, z7, z8, z9, z10, z11, z12⟩ := Blk.cells13 HK13.out.bb.b1
  obtain ⟨f0, f1, f2, f3, f4, f5, f6, f7, f8, f9, f10, f11, f12⟩ := Blk.frozen13 HK13.out.bb.b1
  obtain ⟨x0, x1, x2, x3, x4, x5, x6, x7, x8, x9⟩ := Blk.cells10 HK13.out.bb.b2
  obtain ⟨k0, k1', k2, k3, k4', k5, k6, k7, k8', k9⟩ := Blk.frozen10 HK13.out.bb.b2
  go_region
  obtain ⟨w20, hw20, hQ1, hQ2, hPP, hUU⟩ := Rk.fin HK13.out ⟨s.pc, f, (s.r M), imm, (x.r D), (s.r D), bs, 0#32, false, false⟩
  have HU := Lib.hid hUU; have HPP := Lib.hid hPP; have HQ1 := Lib.hid hQ1; have HQ2 := Lib.hid hQ2
  have hw20' : finL w13 w.heap.size x (u s.pc) (.int .u16 (f : Int)) (u (s.r M)) (u imm) (u (x.r D)) (u (s.r D)) (u bs) (.int .u32 0) (.bool false) (.bool false) = w20 := hw20
  unfold finL at hw20'
  rw [hw20']
  clear hw20 hw20' hQ1 hQ2 hPP hUU z0 z1 z2 z3 z4 z5 z6 z7 z8 z9 z10 z11 z12 f0 f1 f2 f3 f4 f5 f6 f7 f8 f9 f10 f11 f12 x0 x1 x2 x3 x4 x5 x6 x7 x8 x9 k0 k1' k2 k3 k4' k5 k6 k7 k8' k9 y0 y1 y2 y3 y4 y5 y6 y7 y8 y9 n0' n1 n2 n3 n4 n5 n6 n7 n8 n9 n10 n11 n12 HK13
  obtain ⟨y0, y1, y2, y3, y4, y5, y6, y7, y8, y9⟩ := Blk.cells10 HQ2.out
  obtain ⟨n0', n1, n2, n3, n4, n5, n6, n7, n8, n9, n10, n11, n12⟩ := Blk.cells13 HQ1.out
  simp only at y0 y1 y2 y3 y4 y5 y6 y7 y8 y9
  go_wp2_with fail
  exact bodyPost_ret (v := rV5 ⟨x, ⟨s.pc, f, (s.r M), imm, (x.r D), (s.r D), bs, 0#32, false, false⟩, st, 0, m2⟩) (by simp [results, Tryd.results22, go_sem, n0', n1, n2, n3, n4, n5, n6, n7, n8, n9, n10, n11, n12, y0, y1, y2, y3, y4, y5, y6, y7, y8, y9]) rfl ⟨rfl, HPP.out, HU.out⟩
set_option maxRecDepth 100000 in
set_option maxHeartbeats 4000000 in
theorem rlk7 (s x : S) (st : Bool) (n0 : Nat) (h : Hd) (m m2 : St) (w : World) (p : RP n0 h m w) (hC : ∀ W, RP n0 h m W → Calls Tryd.prog 31 #[sv s, ptr h.r] W (RpEnd n0 h (x, st, 0, m2) W)) (f : Nat) (hf : f < 65536) (hfe : fetchV m2 (s.pc.toNat : Int) = ((f : Int), 0)) (D N M : Nat) (i : Int) (hw : Wi 7 D N M i) (htf : Tp.takeF 21 0 f = (7, ⟨D, N, M, i⟩, 0)) :
    Calls Tryd.prog 22 #[sv s, ptr h.r] w (RkEnd n0 h ⟨x, lkV 7 D N M i f s x (BitVec.ofInt 32 m.b), st, 0, m2⟩ w) := by
  have hlk : lkV 7 D N M i f s x (BitVec.ofInt 32 m.b) = ⟨s.pc, f, s.r N, s.r M, x.r D, s.r D, BitVec.ofInt 32 m.b, 0#32, false, false⟩ := rfl
  have hwr : ThRef.wrV 7 D N M i = .tuple #[.int .i64 D, .bool true] := by unfold ThRef.wrV; rw [show ThRef.canB 7 D N M i = true from hw.can]; rfl
  rw [hlk]
  clear hlk
  have hD : D < 8 := hw.d8 (by decide)
  have D2 : (D : Int) < 8 := by omega
  have hN : N < 8 := hw.n8
  have N2 : (N : Int) < 8 := by omega
  have hM : M < 8 := hw.m8
  have M2 : (M : Int) < 8 := by omega
  have hX : ∀ k, h.X k → k < w.heap.size := fun k hk => (p.lt (Hd.XB hk)).2
  have hBB : ∀ k, h.B k → k < w.heap.size := fun k hk => (p.lt hk).2
  have hbw : w.cell? ⟨h.r, 4, none⟩ = some (.int .u32 m.b) := p.blk.cell 4
  rw [bus_u p.fit] at hbw
  generalize BitVec.ofInt 32 m.b = bs at *
  have hF := fun W p => MmR.fetch n0 h m2 W (s.pc.toNat : Int) (by omega) (bd s.pc) p
  rw [hfe] at hF
  have hrlt := (p.lt (Hd.XB (.inl rfl))).2
  obtain ⟨hrk, hbel⟩ := ra_new w s
  have hbw1 := (hbel.cell (p := ⟨h.r, 4, none⟩) hrlt).trans hbw
  have HWR := Lib.hid hwr; have HTF := Lib.hid htf; have HHF := Lib.hid hf; have HX := Lib.hid hX; have HBB := Lib.hid hBB; have HP := Lib.hid p; have HC := Lib.hid hC; have HF := Lib.hid hF; have HS := Lib.hid hrk; have HB := Lib.hid hbel
  clear hX hBB hbw p hC hF hfe hwr htf hf hw hrk hbel hrlt
  go_enter Tryd.func22, Tryd.ntmps22
  go_upto_region 1 with fail
  obtain ⟨w1, hw1⟩ : ∃ w1, ra w s = w1 := ⟨_, rfl⟩
  unfold ra at hw1
  rw [hw1] at HS HB hbw1
  have hw1' : raL w s = w1 := hw1
  unfold raL at hw1'
  rw [hw1']
  clear hw1 hw1'
  obtain ⟨n0', n1, n2, n3, n4, n5, n6, n7, n8, n9, n10, n11, n12⟩ := Blk.cells13 HS.out.b0
  go_wp2_with fail
  refine (HC.out _ (HP.out.below HB.out)).mono ?_
  rintro e w4 ⟨rfl, hp4, hu4⟩
  have H4 := Lib.hid (Rb.new (HS.out.upd hu4 HX.out) hp4 ((Upd.of_below HB.out h.X).trans hu4) HBB.out x)
  clear n0' n1 n2 n3 n4 n5 n6 n7 n8 n9 n10 n11 n12 hp4 hu4 HS HB HC hbw1
  go_upto_region 3 with fail
  obtain ⟨w5, hw5, h5⟩ := H4.out
  have H5 := Lib.hid h5
  simp only [sC] at hw5
  rw [hw5]
  generalize w4.heap.size = g at *
  clear hw5 h5 H4
  have sp : w5.cell? ⟨w.heap.size, 8, none⟩ = some (u s.pc) := H5.out.bb.b0.cell 8
  go_wp2_with fail
  refine (HF.out _ H5.out.p).mono ?_
  rintro e w6' ⟨rfl, nq, rfl⟩
  have H6 := Lib.hid (H5.out.drewN nq)
  generalize w5.drewN nq = w6 at *
  clear sp H5 HF
  go_wp2_with fail
  refine (Tp.takeR f HHF.out _).mono ?_
  rintro e w7 ⟨rfl, hb⟩
  rw [HTF.out, show Tp.resV (7, ⟨D, N, M, i⟩, 0) = .tuple #[.agg #[.int .i64 (7 : Nat), .int .i64 D, .int .i64 N, .int .i64 M, .int .i64 i], .int .i64 (0 : Nat)] from rfl]
  have H7 := Lib.hid (H6.out.below hb)
  clear hb H6
  go_upto_region 7 with fail
  obtain ⟨w8, hw8⟩ : ∃ w8, w7.alloc (.cells (iC 7 D N M i) 58) = w8 := ⟨_, rfl⟩
  have H8 := Lib.hid (H7.out.leak 7 D N M i #[u s.pc, .int .u16 (f : Int), u 0#32, u 0#32, u 0#32, u 0#32, u bs, u 0#32, .bool false, .bool false] hw8)
  have hw8' : w7.alloc (.cells #[.int .i64 7, .int .i64 D, .int .i64 N, .int .i64 M, .int .i64 i] 58) = w8 := hw8
  rw [hw8']
  have sp : w8.cell? ⟨w.heap.size, 8, none⟩ = some (u s.pc) := by rw [← hw8]; exact ((H7.out.bb.b0).alloc _).cell 8
  clear hw8 hw8' H7
  go_upto_region 8 with fail
  obtain ⟨w9, hw9, h9⟩ := H8.out
  have H9 := Lib.hid h9
  have hw9' : w8.alloc (.cells #[u s.pc, .int .u16 (f : Int), .int .u32 0, .int .u32 0, .int .u32 0, .int .u32 0, u bs, .int .u32 0, .bool false, .bool false] 39) = w9 := hw9
  rw [hw9']
  generalize w7.heap.size = gi at *
  generalize w8.heap.size = gl at *
  clear sp hw9 hw9' h9 H8 HP HX HBB
  have i0 : w9.cell? ⟨gi, 0, none⟩ = some (.int .i64 7) := H9.out.bi.cell 0
  have i4 : w9.cell? ⟨gi, 4, none⟩ = some (.int .i64 i) := H9.out.bi.cell 4
  go_quiet (fail)
  have HK10 := Lib.hid (H9.out.drewN nq)
  generalize w9.drewN nq = w10 at *
  clear i0 i4 H9
  have q0 : w.heap.size < gl := by have h0 := HK10.out.g0; have h1 := HK10.out.g1; have h2 := HK10.out.g2; omega
  have q1 : gi < gl := HK10.out.g2
  have q2 : g < gl := by have h1 := HK10.out.g1; have h2 := HK10.out.g2; omega
  obtain ⟨y0, y1, y2, y3, y4, y5, y6, y7, y8, y9, f2, f3, f4, f5, f7, f8, f9, i0, i1, i2, i3, i4, sp⟩ := rkAll HK10.out
  have sD := HK10.out.b0.reg D hD
  have sN := HK10.out.b0.reg N hN
  have sM := HK10.out.b0.reg M hM
  have xD := HK10.out.bx.reg D hD
  go_upto_region 29 with fail
  have HK11 := Lib.hid (show Rk w n0 h m2 s x g gi gl 7 D N M i #[u s.pc, .int .u16 (f : Int), u (s.r N), u (s.r M), u 0#32, u 0#32, u bs, u 0#32, .bool false, .bool false] _ from ((((HK10.out.set 2 (u (s.r N)) rfl).set 3 (u (s.r M)) rfl).set 8 (.bool false) rfl).set 9 (.bool false) rfl))
  obtain ⟨w11, hw11⟩ : ∃ w11, ((((w10.setCell ⟨gl, 2, none⟩ (u (s.r N))).setCell ⟨gl, 3, none⟩ (u (s.r M))).setCell ⟨gl, 8, none⟩ (.bool false)).setCell ⟨gl, 9, none⟩ (.bool false)) = w11 := ⟨_, rfl⟩
  rw [hw11] at HK11
  rw [hw11]
  clear hw11 HK10 y0 y1 y2 y3 y4 y5 y6 y7 y8 y9 f2 f3 f4 f5 f7 f8 f9 i0 i1 i2 i3 i4 sp sD sN sM xD
  obtain ⟨y0, y1, y2, y3, y4, y5, y6, y7, y8, y9, f2, f3, f4, f5, f7, f8, f9, i0, i1, i2, i3, i4, sp⟩ := rkAll HK11.out
  have sD := HK11.out.b0.reg D hD
  have sN := HK11.out.b0.reg N hN
  have sM := HK11.out.b0.reg M hM
  have xD := HK11.out.bx.reg D hD
  go_wp2_with fail
  refine (ThRef.writes 7 D N M i _).mono ?_
  rintro e w12 ⟨rfl, hb⟩
  rw [HWR.out]
  have HK12 := Lib.hid (HK11.out.below hb)
  clear hb HK11 y0 y1 y2 y3 y4 y5 y6 y7 y8 y9 f2 f3 f4 f5 f7 f8 f9 i0 i1 i2 i3 i4 sp sD sN sM xD
  obtain ⟨y0, y1, y2, y3, y4, y5, y6, y7, y8, y9, f2, f3, f4, f5, f7, f8, f9, i0, i1, i2, i3, i4, sp⟩ := rkAll HK12.out
  have sD := HK12.out.b0.reg D hD
  have sN := HK12.out.b0.reg N hN
  have sM := HK12.out.b0.reg M hM
  have xD := HK12.out.bx.reg D hD
  go_upto_region 31 with fail
  go_region
  have HK13 := Lib.hid (show Rk w n0 h m2 s x g gi gl 7 D N M i #[u s.pc, .int .u16 (f : Int), u (s.r N), u (s.r M), u (x.r D), u (s.r D), u bs, u 0#32, .bool false, .bool false] _ from ((HK12.out.set 4 (u (x.r D)) rfl).set 5 (u (s.r D)) rfl).drew)
  obtain ⟨w13, hw13⟩ : ∃ w13, ((w12.setCell ⟨gl, 4, none⟩ (u (x.r D))).setCell ⟨gl, 5, none⟩ (u (s.r D))).drew = w13 := ⟨_, rfl⟩
  rw [hw13] at HK13
  rw [hw13]
  clear hw13 HK12 y0 y1 y2 y3 y4 y5 y6 y7 y8 y9 f2 f3 f4 f5 f7 f8 f9 i0 i1 i2 i3 i4 sp sD sN sM xD
  obtain ⟨y0, y1, y2, y3, y4, y5, y6, y7, y8, y9, f2, f3, f4, f5, f7, f8, f9, i0, i1, i2, i3, i4, sp⟩ := rkAll HK13.out
  have sD := HK13.out.b0.reg D hD
  have sN := HK13.out.b0.reg N hN
  have sM := HK13.out.b0.reg M hM
  have xD := HK13.out.bx.reg D hD
  go_upto_region 40 with fail
  clear y0 y1 y2 y3 y4 y5 y6 y7 y8 y9 f2 f3 f4 f5 f7 f8 f9 i0 i1 i2 i3 i4 sp sD sN sM xD
  obtain ⟨⟨y0, y1, y2, y3, y4, y5, y6, y7, y8, y9⟩, ⟨n0', n1, n2, n3, n4, n5, n6, n7, n8, n9, n10, n11, n12⟩, q3, q4⟩ := rkLast HK13.out
  obtain ⟨z0, z1, z2, z3, z4, z5, z6, z7, z8, z9, z10, z11, z12⟩ := Blk.cells13 HK13.out.bb.b1
  obtain ⟨f0, f1, f2, f3, f4, f5, f6, f7, f8, f9, f10, f11, f12⟩ := Blk.frozen13 HK13.out.bb.b1
  obtain ⟨x0, x1, x2, x3, x4, x5, x6, x7, x8, x9⟩ := Blk.cells10 HK13.out.bb.b2
  obtain ⟨k0, k1', k2, k3, k4', k5, k6, k7, k8', k9⟩ := Blk.frozen10 HK13.out.bb.b2
  go_region
  obtain ⟨w20, hw20, hQ1, hQ2, hPP, hUU⟩ := Rk.fin HK13.out ⟨s.pc, f, (s.r N), (s.r M), (x.r D), (s.r D), bs, 0#32, false, false⟩
  have HU := Lib.hid hUU; have HPP := Lib.hid hPP; have HQ1 := Lib.hid hQ1; have HQ2 := Lib.hid hQ2
  have hw20' : finL w13 w.heap.size x (u s.pc) (.int .u16 (f : Int)) (u (s.r N)) (u (s.r M)) (u (x.r D)) (u (s.r D)) (u bs) (.int .u32 0) (.bool false) (.bool false) = w20 := hw20
  unfold finL at hw20'
  rw [hw20']
  clear hw20 hw20' hQ1 hQ2 hPP hUU z0 z1 z2 z3 z4 z5 z6 z7 z8 z9 z10 z11 z12 f0 f1 f2 f3 f4 f5 f6 f7 f8 f9 f10 f11 f12 x0 x1 x2 x3 x4 x5 x6 x7 x8 x9 k0 k1' k2 k3 k4' k5 k6 k7 k8' k9 y0 y1 y2 y3 y4 y5 y6 y7 y8 y9 n0' n1 n2 n3 n4 n5 n6 n7 n8 n9 n10 n11 n12 HK13
  obtain ⟨y0, y1, y2, y3, y4, y5, y6, y7, y8, y9⟩ := Blk.cells10 HQ2.out
  obtain ⟨n0', n1, n2, n3, n4, n5, n6, n7, n8, n9, n10, n11, n12⟩ := Blk.cells13 HQ1.out
  simp only at y0 y1 y2 y3 y4 y5 y6 y7 y8 y9
  go_wp2_with fail
  exact bodyPost_ret (v := rV5 ⟨x, ⟨s.pc, f, (s.r N), (s.r M), (x.r D), (s.r D), bs, 0#32, false, false⟩, st, 0, m2⟩) (by simp [results, Tryd.results22, go_sem, n0', n1, n2, n3, n4, n5, n6, n7, n8, n9, n10, n11, n12, y0, y1, y2, y3, y4, y5, y6, y7, y8, y9]) rfl ⟨rfl, HPP.out, HU.out⟩
set_option maxRecDepth 100000 in
set_option maxHeartbeats 4000000 in
theorem rlk8 (s x : S) (st : Bool) (n0 : Nat) (h : Hd) (m m2 : St) (w : World) (p : RP n0 h m w) (hC : ∀ W, RP n0 h m W → Calls Tryd.prog 31 #[sv s, ptr h.r] W (RpEnd n0 h (x, st, 0, m2) W)) (f : Nat) (hf : f < 65536) (hfe : fetchV m2 (s.pc.toNat : Int) = ((f : Int), 0)) (D N M : Nat) (i : Int) (hw : Wi 8 D N M i) (htf : Tp.takeF 21 0 f = (8, ⟨D, N, M, i⟩, 0)) :
    Calls Tryd.prog 22 #[sv s, ptr h.r] w (RkEnd n0 h ⟨x, lkV 8 D N M i f s x (BitVec.ofInt 32 m.b), st, 0, m2⟩ w) := by
  have hlk : lkV 8 D N M i f s x (BitVec.ofInt 32 m.b) = ⟨s.pc, f, s.r N, s.r M, x.r D, s.r D, BitVec.ofInt 32 m.b, 0#32, false, false⟩ := rfl
  have hwr : ThRef.wrV 8 D N M i = .tuple #[.int .i64 D, .bool true] := by unfold ThRef.wrV; rw [show ThRef.canB 8 D N M i = true from hw.can]; rfl
  rw [hlk]
  clear hlk
  have hD : D < 8 := hw.d8 (by decide)
  have D2 : (D : Int) < 8 := by omega
  have hN : N < 8 := hw.n8
  have N2 : (N : Int) < 8 := by omega
  have hM : M < 8 := hw.m8
  have M2 : (M : Int) < 8 := by omega
  have hX : ∀ k, h.X k → k < w.heap.size := fun k hk => (p.lt (Hd.XB hk)).2
  have hBB : ∀ k, h.B k → k < w.heap.size := fun k hk => (p.lt hk).2
  have hbw : w.cell? ⟨h.r, 4, none⟩ = some (.int .u32 m.b) := p.blk.cell 4
  rw [bus_u p.fit] at hbw
  generalize BitVec.ofInt 32 m.b = bs at *
  have hF := fun W p => MmR.fetch n0 h m2 W (s.pc.toNat : Int) (by omega) (bd s.pc) p
  rw [hfe] at hF
  have hrlt := (p.lt (Hd.XB (.inl rfl))).2
  obtain ⟨hrk, hbel⟩ := ra_new w s
  have hbw1 := (hbel.cell (p := ⟨h.r, 4, none⟩) hrlt).trans hbw
  have HWR := Lib.hid hwr; have HTF := Lib.hid htf; have HHF := Lib.hid hf; have HX := Lib.hid hX; have HBB := Lib.hid hBB; have HP := Lib.hid p; have HC := Lib.hid hC; have HF := Lib.hid hF; have HS := Lib.hid hrk; have HB := Lib.hid hbel
  clear hX hBB hbw p hC hF hfe hwr htf hf hw hrk hbel hrlt
  go_enter Tryd.func22, Tryd.ntmps22
  go_upto_region 1 with fail
  obtain ⟨w1, hw1⟩ : ∃ w1, ra w s = w1 := ⟨_, rfl⟩
  unfold ra at hw1
  rw [hw1] at HS HB hbw1
  have hw1' : raL w s = w1 := hw1
  unfold raL at hw1'
  rw [hw1']
  clear hw1 hw1'
  obtain ⟨n0', n1, n2, n3, n4, n5, n6, n7, n8, n9, n10, n11, n12⟩ := Blk.cells13 HS.out.b0
  go_wp2_with fail
  refine (HC.out _ (HP.out.below HB.out)).mono ?_
  rintro e w4 ⟨rfl, hp4, hu4⟩
  have H4 := Lib.hid (Rb.new (HS.out.upd hu4 HX.out) hp4 ((Upd.of_below HB.out h.X).trans hu4) HBB.out x)
  clear n0' n1 n2 n3 n4 n5 n6 n7 n8 n9 n10 n11 n12 hp4 hu4 HS HB HC hbw1
  go_upto_region 3 with fail
  obtain ⟨w5, hw5, h5⟩ := H4.out
  have H5 := Lib.hid h5
  simp only [sC] at hw5
  rw [hw5]
  generalize w4.heap.size = g at *
  clear hw5 h5 H4
  have sp : w5.cell? ⟨w.heap.size, 8, none⟩ = some (u s.pc) := H5.out.bb.b0.cell 8
  go_wp2_with fail
  refine (HF.out _ H5.out.p).mono ?_
  rintro e w6' ⟨rfl, nq, rfl⟩
  have H6 := Lib.hid (H5.out.drewN nq)
  generalize w5.drewN nq = w6 at *
  clear sp H5 HF
  go_wp2_with fail
  refine (Tp.takeR f HHF.out _).mono ?_
  rintro e w7 ⟨rfl, hb⟩
  rw [HTF.out, show Tp.resV (8, ⟨D, N, M, i⟩, 0) = .tuple #[.agg #[.int .i64 (8 : Nat), .int .i64 D, .int .i64 N, .int .i64 M, .int .i64 i], .int .i64 (0 : Nat)] from rfl]
  have H7 := Lib.hid (H6.out.below hb)
  clear hb H6
  go_upto_region 7 with fail
  obtain ⟨w8, hw8⟩ : ∃ w8, w7.alloc (.cells (iC 8 D N M i) 58) = w8 := ⟨_, rfl⟩
  have H8 := Lib.hid (H7.out.leak 8 D N M i #[u s.pc, .int .u16 (f : Int), u 0#32, u 0#32, u 0#32, u 0#32, u bs, u 0#32, .bool false, .bool false] hw8)
  have hw8' : w7.alloc (.cells #[.int .i64 8, .int .i64 D, .int .i64 N, .int .i64 M, .int .i64 i] 58) = w8 := hw8
  rw [hw8']
  have sp : w8.cell? ⟨w.heap.size, 8, none⟩ = some (u s.pc) := by rw [← hw8]; exact ((H7.out.bb.b0).alloc _).cell 8
  clear hw8 hw8' H7
  go_upto_region 8 with fail
  obtain ⟨w9, hw9, h9⟩ := H8.out
  have H9 := Lib.hid h9
  have hw9' : w8.alloc (.cells #[u s.pc, .int .u16 (f : Int), .int .u32 0, .int .u32 0, .int .u32 0, .int .u32 0, u bs, .int .u32 0, .bool false, .bool false] 39) = w9 := hw9
  rw [hw9']
  generalize w7.heap.size = gi at *
  generalize w8.heap.size = gl at *
  clear sp hw9 hw9' h9 H8 HP HX HBB
  have i0 : w9.cell? ⟨gi, 0, none⟩ = some (.int .i64 8) := H9.out.bi.cell 0
  have i4 : w9.cell? ⟨gi, 4, none⟩ = some (.int .i64 i) := H9.out.bi.cell 4
  go_quiet (fail)
  have HK10 := Lib.hid (H9.out.drewN nq)
  generalize w9.drewN nq = w10 at *
  clear i0 i4 H9
  have q0 : w.heap.size < gl := by have h0 := HK10.out.g0; have h1 := HK10.out.g1; have h2 := HK10.out.g2; omega
  have q1 : gi < gl := HK10.out.g2
  have q2 : g < gl := by have h1 := HK10.out.g1; have h2 := HK10.out.g2; omega
  obtain ⟨y0, y1, y2, y3, y4, y5, y6, y7, y8, y9, f2, f3, f4, f5, f7, f8, f9, i0, i1, i2, i3, i4, sp⟩ := rkAll HK10.out
  have sD := HK10.out.b0.reg D hD
  have sN := HK10.out.b0.reg N hN
  have sM := HK10.out.b0.reg M hM
  have xD := HK10.out.bx.reg D hD
  go_upto_region 29 with fail
  have HK11 := Lib.hid (show Rk w n0 h m2 s x g gi gl 8 D N M i #[u s.pc, .int .u16 (f : Int), u (s.r N), u (s.r M), u 0#32, u 0#32, u bs, u 0#32, .bool false, .bool false] _ from ((((HK10.out.set 2 (u (s.r N)) rfl).set 3 (u (s.r M)) rfl).set 8 (.bool false) rfl).set 9 (.bool false) rfl))
  obtain ⟨w11, hw11⟩ : ∃ w11, ((((w10.setCell ⟨gl, 2, none⟩ (u (s.r N))).setCell ⟨gl, 3, none⟩ (u (s.r M))).setCell ⟨gl, 8, none⟩ (.bool false)).setCell ⟨gl, 9, none⟩ (.bool false)) = w11 := ⟨_, rfl⟩
  rw [hw11] at HK11
  rw [hw11]
  clear hw11 HK10 y0 y1 y2 y3 y4 y5 y6 y7 y8 y9 f2 f3 f4 f5 f7 f8 f9 i0 i1 i2 i3 i4 sp sD sN sM xD
  obtain ⟨y0, y1, y2, y3, y4, y5, y6, y7, y8, y9, f2, f3, f4, f5, f7, f8, f9, i0, i1, i2, i3, i4, sp⟩ := rkAll HK11.out
  have sD := HK11.out.b0.reg D hD
  have sN := HK11.out.b0.reg N hN
  have sM := HK11.out.b0.reg M hM
  have xD := HK11.out.bx.reg D hD
  go_wp2_with fail
  refine (ThRef.writes 8 D N M i _).mono ?_
  rintro e w12 ⟨rfl, hb⟩
  rw [HWR.out]
  have HK12 := Lib.hid (HK11.out.below hb)
  clear hb HK11 y0 y1 y2 y3 y4 y5 y6 y7 y8 y9 f2 f3 f4 f5 f7 f8 f9 i0 i1 i2 i3 i4 sp sD sN sM xD
  obtain ⟨y0, y1, y2, y3, y4, y5, y6, y7, y8, y9, f2, f3, f4, f5, f7, f8, f9, i0, i1, i2, i3, i4, sp⟩ := rkAll HK12.out
  have sD := HK12.out.b0.reg D hD
  have sN := HK12.out.b0.reg N hN
  have sM := HK12.out.b0.reg M hM
  have xD := HK12.out.bx.reg D hD
  go_upto_region 31 with fail
  go_region
  have HK13 := Lib.hid (show Rk w n0 h m2 s x g gi gl 8 D N M i #[u s.pc, .int .u16 (f : Int), u (s.r N), u (s.r M), u (x.r D), u (s.r D), u bs, u 0#32, .bool false, .bool false] _ from ((HK12.out.set 4 (u (x.r D)) rfl).set 5 (u (s.r D)) rfl).drew)
  obtain ⟨w13, hw13⟩ : ∃ w13, ((w12.setCell ⟨gl, 4, none⟩ (u (x.r D))).setCell ⟨gl, 5, none⟩ (u (s.r D))).drew = w13 := ⟨_, rfl⟩
  rw [hw13] at HK13
  rw [hw13]
  clear hw13 HK12 y0 y1 y2 y3 y4 y5 y6 y7 y8 y9 f2 f3 f4 f5 f7 f8 f9 i0 i1 i2 i3 i4 sp sD sN sM xD
  obtain ⟨y0, y1, y2, y3, y4, y5, y6, y7, y8, y9, f2, f3, f4, f5, f7, f8, f9, i0, i1, i2, i3, i4, sp⟩ := rkAll HK13.out
  have sD := HK13.out.b0.reg D hD
  have sN := HK13.out.b0.reg N hN
  have sM := HK13.out.b0.reg M hM
  have xD := HK13.out.bx.reg D hD
  go_upto_region 40 with fail
  clear y0 y1 y2 y3 y4 y5 y6 y7 y8 y9 f2 f3 f4 f5 f7 f8 f9 i0 i1 i2 i3 i4 sp sD sN sM xD
  obtain ⟨⟨y0, y1, y2, y3, y4, y5, y6, y7, y8, y9⟩, ⟨n0', n1, n2, n3, n4, n5, n6, n7, n8, n9, n10, n11, n12⟩, q3, q4⟩ := rkLast HK13.out
  obtain ⟨z0, z1, z2, z3, z4, z5, z6, z7, z8, z9, z10, z11, z12⟩ := Blk.cells13 HK13.out.bb.b1
  obtain ⟨f0, f1, f2, f3, f4, f5, f6, f7, f8, f9, f10, f11, f12⟩ := Blk.frozen13 HK13.out.bb.b1
  obtain ⟨x0, x1, x2, x3, x4, x5, x6, x7, x8, x9⟩ := Blk.cells10 HK13.out.bb.b2
  obtain ⟨k0, k1', k2, k3, k4', k5, k6, k7, k8', k9⟩ := Blk.frozen10 HK13.out.bb.b2
  go_region
  obtain ⟨w20, hw20, hQ1, hQ2, hPP, hUU⟩ := Rk.fin HK13.out ⟨s.pc, f, (s.r N), (s.r M), (x.r D), (s.r D), bs, 0#32, false, false⟩
  have HU := Lib.hid hUU; have HPP := Lib.hid hPP; have HQ1 := Lib.hid hQ1; have HQ2 := Lib.hid hQ2
  have hw20' : finL w13 w.heap.size x (u s.pc) (.int .u16 (f : Int)) (u (s.r N)) (u (s.r M)) (u (x.r D)) (u (s.r D)) (u bs) (.int .u32 0) (.bool false) (.bool false) = w20 := hw20
  unfold finL at hw20'
  rw [hw20']
  clear hw20 hw20' hQ1 hQ2 hPP hUU z0 z1 z2 z3 z4 z5 z6 z7 z8 z9 z10 z11 z12 f0 f1 f2 f3 f4 f5 f6 f7 f8 f9 f10 f11 f12 x0 x1 x2 x3 x4 x5 x6 x7 x8 x9 k0 k1' k2 k3 k4' k5 k6 k7 k8' k9 y0 y1 y2 y3 y4 y5 y6 y7 y8 y9 n0' n1 n2 n3 n4 n5 n6 n7 n8 n9 n10 n11 n12 HK13
  obtain ⟨y0, y1, y2, y3, y4, y5, y6, y7, y8, y9⟩ := Blk.cells10 HQ2.out
  obtain ⟨n0', n1, n2, n3, n4, n5, n6, n7, n8, n9, n10, n11, n12⟩ := Blk.cells13 HQ1.out
  simp only at y0 y1 y2 y3 y4 y5 y6 y7 y8 y9
  go_wp2_with fail
  exact bodyPost_ret (v := rV5 ⟨x, ⟨s.pc, f, (s.r N), (s.r M), (x.r D), (s.r D), bs, 0#32, false, false⟩, st, 0, m2⟩) (by simp [results, Tryd.results22, go_sem, n0', n1, n2, n3, n4, n5, n6, n7, n8, n9, n10, n11, n12, y0, y1, y2, y3, y4, y5, y6, y7, y8, y9]) rfl ⟨rfl, HPP.out, HU.out⟩
set_option maxRecDepth 100000 in
set_option maxHeartbeats 4000000 in
theorem rlk9 (s x : S) (st : Bool) (n0 : Nat) (h : Hd) (m m2 : St) (w : World) (p : RP n0 h m w) (hC : ∀ W, RP n0 h m W → Calls Tryd.prog 31 #[sv s, ptr h.r] W (RpEnd n0 h (x, st, 0, m2) W)) (f : Nat) (hf : f < 65536) (hfe : fetchV m2 (s.pc.toNat : Int) = ((f : Int), 0)) (D N M : Nat) (i : Int) (hw : Wi 9 D N M i) (htf : Tp.takeF 21 0 f = (9, ⟨D, N, M, i⟩, 0)) :
    Calls Tryd.prog 22 #[sv s, ptr h.r] w (RkEnd n0 h ⟨x, lkV 9 D N M i f s x (BitVec.ofInt 32 m.b), st, 0, m2⟩ w) := by
  have hlk : lkV 9 D N M i f s x (BitVec.ofInt 32 m.b) = ⟨s.pc, f, s.r N, BitVec.ofInt 32 i, x.r D, s.r D, BitVec.ofInt 32 m.b, 0#32, false, false⟩ := rfl
  have hwr : ThRef.wrV 9 D N M i = .tuple #[.int .i64 D, .bool true] := by unfold ThRef.wrV; rw [show ThRef.canB 9 D N M i = true from hw.can]; rfl
  rw [hlk]
  clear hlk
  have hD : D < 8 := hw.d8 (by decide)
  have D2 : (D : Int) < 8 := by omega
  have hN : N < 8 := hw.n8
  have N2 : (N : Int) < 8 := by omega
  have hwi := wrap_ofInt (i)
  generalize BitVec.ofInt 32 i = imm at *
  have hX : ∀ k, h.X k → k < w.heap.size := fun k hk => (p.lt (Hd.XB hk)).2
  have hBB : ∀ k, h.B k → k < w.heap.size := fun k hk => (p.lt hk).2
  have hbw : w.cell? ⟨h.r, 4, none⟩ = some (.int .u32 m.b) := p.blk.cell 4
  rw [bus_u p.fit] at hbw
  generalize BitVec.ofInt 32 m.b = bs at *
  have hF := fun W p => MmR.fetch n0 h m2 W (s.pc.toNat : Int) (by omega) (bd s.pc) p
  rw [hfe] at hF
  have hrlt := (p.lt (Hd.XB (.inl rfl))).2
  obtain ⟨hrk, hbel⟩ := ra_new w s
  have hbw1 := (hbel.cell (p := ⟨h.r, 4, none⟩) hrlt).trans hbw
  have HWR := Lib.hid hwr; have HTF := Lib.hid htf; have HHF := Lib.hid hf; have HX := Lib.hid hX; have HBB := Lib.hid hBB; have HP := Lib.hid p; have HC := Lib.hid hC; have HF := Lib.hid hF; have HS := Lib.hid hrk; have HB := Lib.hid hbel
  clear hX hBB hbw p hC hF hfe hwr htf hf hw hrk hbel hrlt
  go_enter Tryd.func22, Tryd.ntmps22
  go_upto_region 1 with fail
  obtain ⟨w1, hw1⟩ : ∃ w1, ra w s = w1 := ⟨_, rfl⟩
  unfold ra at hw1
  rw [hw1] at HS HB hbw1
  have hw1' : raL w s = w1 := hw1
  unfold raL at hw1'
  rw [hw1']
  clear hw1 hw1'
  obtain ⟨n0', n1, n2, n3, n4, n5, n6, n7, n8, n9, n10, n11, n12⟩ := Blk.cells13 HS.out.b0
  go_wp2_with fail
  refine (HC.out _ (HP.out.below HB.out)).mono ?_
  rintro e w4 ⟨rfl, hp4, hu4⟩
  have H4 := Lib.hid (Rb.new (HS.out.upd hu4 HX.out) hp4 ((Upd.of_below HB.out h.X).trans hu4) HBB.out x)
  clear n0' n1 n2 n3 n4 n5 n6 n7 n8 n9 n10 n11 n12 hp4 hu4 HS HB HC hbw1
  go_upto_region 3 with fail
  obtain ⟨w5, hw5, h5⟩ := H4.out
  have H5 := Lib.hid h5
  simp only [sC] at hw5
  rw [hw5]
  generalize w4.heap.size = g at *
  clear hw5 h5 H4
  have sp : w5.cell? ⟨w.heap.size, 8, none⟩ = some (u s.pc) := H5.out.bb.b0.cell 8
  go_wp2_with fail
  refine (HF.out _ H5.out.p).mono ?_
  rintro e w6' ⟨rfl, nq, rfl⟩
  have H6 := Lib.hid (H5.out.drewN nq)
  generalize w5.drewN nq = w6 at *
  clear sp H5 HF
  go_wp2_with fail
  refine (Tp.takeR f HHF.out _).mono ?_
  rintro e w7 ⟨rfl, hb⟩
  rw [HTF.out, show Tp.resV (9, ⟨D, N, M, i⟩, 0) = .tuple #[.agg #[.int .i64 (9 : Nat), .int .i64 D, .int .i64 N, .int .i64 M, .int .i64 i], .int .i64 (0 : Nat)] from rfl]
  have H7 := Lib.hid (H6.out.below hb)
  clear hb H6
  go_upto_region 7 with fail
  obtain ⟨w8, hw8⟩ : ∃ w8, w7.alloc (.cells (iC 9 D N M i) 58) = w8 := ⟨_, rfl⟩
  have H8 := Lib.hid (H7.out.leak 9 D N M i #[u s.pc, .int .u16 (f : Int), u 0#32, u 0#32, u 0#32, u 0#32, u bs, u 0#32, .bool false, .bool false] hw8)
  have hw8' : w7.alloc (.cells #[.int .i64 9, .int .i64 D, .int .i64 N, .int .i64 M, .int .i64 i] 58) = w8 := hw8
  rw [hw8']
  have sp : w8.cell? ⟨w.heap.size, 8, none⟩ = some (u s.pc) := by rw [← hw8]; exact ((H7.out.bb.b0).alloc _).cell 8
  clear hw8 hw8' H7
  go_upto_region 8 with fail
  obtain ⟨w9, hw9, h9⟩ := H8.out
  have H9 := Lib.hid h9
  have hw9' : w8.alloc (.cells #[u s.pc, .int .u16 (f : Int), .int .u32 0, .int .u32 0, .int .u32 0, .int .u32 0, u bs, .int .u32 0, .bool false, .bool false] 39) = w9 := hw9
  rw [hw9']
  generalize w7.heap.size = gi at *
  generalize w8.heap.size = gl at *
  clear sp hw9 hw9' h9 H8 HP HX HBB
  have i0 : w9.cell? ⟨gi, 0, none⟩ = some (.int .i64 9) := H9.out.bi.cell 0
  have i4 : w9.cell? ⟨gi, 4, none⟩ = some (.int .i64 i) := H9.out.bi.cell 4
  go_quiet (fail)
  have HK10 := Lib.hid (H9.out.drewN nq)
  generalize w9.drewN nq = w10 at *
  clear i0 i4 H9
  have q0 : w.heap.size < gl := by have h0 := HK10.out.g0; have h1 := HK10.out.g1; have h2 := HK10.out.g2; omega
  have q1 : gi < gl := HK10.out.g2
  have q2 : g < gl := by have h1 := HK10.out.g1; have h2 := HK10.out.g2; omega
  obtain ⟨y0, y1, y2, y3, y4, y5, y6, y7, y8, y9, f2, f3, f4, f5, f7, f8, f9, i0, i1, i2, i3, i4, sp⟩ := rkAll HK10.out
  have sD := HK10.out.b0.reg D hD
  have sN := HK10.out.b0.reg N hN
  have xD := HK10.out.bx.reg D hD
  go_upto_region 29 with fail
  have HK11 := Lib.hid (show Rk w n0 h m2 s x g gi gl 9 D N M i #[u s.pc, .int .u16 (f : Int), u (s.r N), u imm, u 0#32, u 0#32, u bs, u 0#32, .bool false, .bool false] _ from ((((HK10.out.set 3 (u imm) rfl).set 2 (u (s.r N)) rfl).set 8 (.bool false) rfl).set 9 (.bool false) rfl))
  obtain ⟨w11, hw11⟩ : ∃ w11, ((((w10.setCell ⟨gl, 3, none⟩ (u imm)).setCell ⟨gl, 2, none⟩ (u (s.r N))).setCell ⟨gl, 8, none⟩ (.bool false)).setCell ⟨gl, 9, none⟩ (.bool false)) = w11 := ⟨_, rfl⟩
  rw [hw11] at HK11
  rw [hw11]
  clear hw11 HK10 y0 y1 y2 y3 y4 y5 y6 y7 y8 y9 f2 f3 f4 f5 f7 f8 f9 i0 i1 i2 i3 i4 sp sD sN xD
  obtain ⟨y0, y1, y2, y3, y4, y5, y6, y7, y8, y9, f2, f3, f4, f5, f7, f8, f9, i0, i1, i2, i3, i4, sp⟩ := rkAll HK11.out
  have sD := HK11.out.b0.reg D hD
  have sN := HK11.out.b0.reg N hN
  have xD := HK11.out.bx.reg D hD
  go_wp2_with fail
  refine (ThRef.writes 9 D N M i _).mono ?_
  rintro e w12 ⟨rfl, hb⟩
  rw [HWR.out]
  have HK12 := Lib.hid (HK11.out.below hb)
  clear hb HK11 y0 y1 y2 y3 y4 y5 y6 y7 y8 y9 f2 f3 f4 f5 f7 f8 f9 i0 i1 i2 i3 i4 sp sD sN xD
  obtain ⟨y0, y1, y2, y3, y4, y5, y6, y7, y8, y9, f2, f3, f4, f5, f7, f8, f9, i0, i1, i2, i3, i4, sp⟩ := rkAll HK12.out
  have sD := HK12.out.b0.reg D hD
  have sN := HK12.out.b0.reg N hN
  have xD := HK12.out.bx.reg D hD
  go_upto_region 31 with fail
  go_region
  have HK13 := Lib.hid (show Rk w n0 h m2 s x g gi gl 9 D N M i #[u s.pc, .int .u16 (f : Int), u (s.r N), u imm, u (x.r D), u (s.r D), u bs, u 0#32, .bool false, .bool false] _ from ((HK12.out.set 4 (u (x.r D)) rfl).set 5 (u (s.r D)) rfl).drew)
  obtain ⟨w13, hw13⟩ : ∃ w13, ((w12.setCell ⟨gl, 4, none⟩ (u (x.r D))).setCell ⟨gl, 5, none⟩ (u (s.r D))).drew = w13 := ⟨_, rfl⟩
  rw [hw13] at HK13
  rw [hw13]
  clear hw13 HK12 y0 y1 y2 y3 y4 y5 y6 y7 y8 y9 f2 f3 f4 f5 f7 f8 f9 i0 i1 i2 i3 i4 sp sD sN xD
  obtain ⟨y0, y1, y2, y3, y4, y5, y6, y7, y8, y9, f2, f3, f4, f5, f7, f8, f9, i0, i1, i2, i3, i4, sp⟩ := rkAll HK13.out
  have sD := HK13.out.b0.reg D hD
  have sN := HK13.out.b0.reg N hN
  have xD := HK13.out.bx.reg D hD
  go_upto_region 40 with fail
  clear y0 y1 y2 y3 y4 y5 y6 y7 y8 y9 f2 f3 f4 f5 f7 f8 f9 i0 i1 i2 i3 i4 sp sD sN xD
  obtain ⟨⟨y0, y1, y2, y3, y4, y5, y6, y7, y8, y9⟩, ⟨n0', n1, n2, n3, n4, n5, n6, n7, n8, n9, n10, n11, n12⟩, q3, q4⟩ := rkLast HK13.out
  obtain ⟨z0, z1, z2, z3, z4, z5, z6, z7, z8, z9, z10, z11, z12⟩ := Blk.cells13 HK13.out.bb.b1
  obtain ⟨f0, f1, f2, f3, f4, f5, f6, f7, f8, f9, f10, f11, f12⟩ := Blk.frozen13 HK13.out.bb.b1
  obtain ⟨x0, x1, x2, x3, x4, x5, x6, x7, x8, x9⟩ := Blk.cells10 HK13.out.bb.b2
  obtain ⟨k0, k1', k2, k3, k4', k5, k6, k7, k8', k9⟩ := Blk.frozen10 HK13.out.bb.b2
  go_region
  obtain ⟨w20, hw20, hQ1, hQ2, hPP, hUU⟩ := Rk.fin HK13.out ⟨s.pc, f, (s.r N), imm, (x.r D), (s.r D), bs, 0#32, false, false⟩
  have HU := Lib.hid hUU; have HPP := Lib.hid hPP; have HQ1 := Lib.hid hQ1; have HQ2 := Lib.hid hQ2
  have hw20' : finL w13 w.heap.size x (u s.pc) (.int .u16 (f : Int)) (u (s.r N)) (u imm) (u (x.r D)) (u (s.r D)) (u bs) (.int .u32 0) (.bool false) (.bool false) = w20 := hw20
  unfold finL at hw20'
  rw [hw20']
  clear hw20 hw20' hQ1 hQ2 hPP hUU z0 z1 z2 z3 z4 z5 z6 z7 z8 z9 z10 z11 z12 f0 f1 f2 f3 f4 f5 f6 f7 f8 f9 f10 f11 f12 x0 x1 x2 x3 x4 x5 x6 x7 x8 x9 k0 k1' k2 k3 k4' k5 k6 k7 k8' k9 y0 y1 y2 y3 y4 y5 y6 y7 y8 y9 n0' n1 n2 n3 n4 n5 n6 n7 n8 n9 n10 n11 n12 HK13
  obtain ⟨y0, y1, y2, y3, y4, y5, y6, y7, y8, y9⟩ := Blk.cells10 HQ2.out
  obtain ⟨n0', n1, n2, n3, n4, n5, n6, n7, n8, n9, n10, n11, n12⟩ := Blk.cells13 HQ1.out
  simp only at y0 y1 y2 y3 y4 y5 y6 y7 y8 y9
  go_wp2_with fail
  exact bodyPost_ret (v := rV5 ⟨x, ⟨s.pc, f, (s.r N), imm, (x.r D), (s.r D), bs, 0#32, false, false⟩, st, 0, m2⟩) (by simp [results, Tryd.results22, go_sem, n0', n1, n2, n3, n4, n5, n6, n7, n8, n9, n10, n11, n12, y0, y1, y2, y3, y4, y5, y6, y7, y8, y9]) rfl ⟨rfl, HPP.out, HU.out⟩
end Go.Proofs.YtkafmpdjpjgkgaaDoor.Lk
