/- DERIVED. CoRt in one text. By an AI agent. -/
import Derived.Test.YtkafmpdjpjgkgaaDoorZ33
import Derived.Test.YtkafmpdjpjgkgaaDoorZ31
/- DERIVED. Of the reference's Step: by what it does. By an AI agent. -/
namespace Go.Proofs.YtkafmpdjpjgkgaaDoor.Co
open Go.ChangeShapes Go.WideShapes Go.ChangeAt Go.RowKit WMath Word Ref Args Mm MmR
set_option linter.unusedVariables false
set_option linter.unusedSimpArgs false
set_option maxRecDepth 100000 in
set_option maxHeartbeats 2000000 in
theorem rst1 (s : S) (n0 : Nat) (h : Hd) (m : St) (w : World) (p : RP n0 h m w) (hf : Nat) (hh : hf < 65536) (hfe : fetchV m (s.pc.toNat : Int) = ((hf : Int), 0)) (D N M : Nat) (i : Int) (hw0 : Wi 1 D N M i) (htf : Tp.takeF 21 0 hf = (1, ⟨D, N, M, i⟩, 0)) : Calls Tryd.prog 31 #[sv s, ptr h.r] w (RpEnd n0 h ((doS 1 D N M i s m).1, false, 0, m) w) := by
  have HTF := Lib.hid htf
  clear htf
  have hX : ∀ k, h.X k → k < w.heap.size := fun k hk => (p.lt (Hd.XB hk)).2
  have hBB : ∀ k, h.B k → k < w.heap.size := fun k hk => (p.lt hk).2
  have hF := fun W p => MmR.fetch n0 h m W (s.pc.toNat : Int) (by omega) (bd s.pc) p
  rw [hfe] at hF
  have HX := Lib.hid hX; have HBB := Lib.hid hBB; have HP := Lib.hid p; have HF := Lib.hid hF
  clear hX hBB p hF hfe
  go_enter Tryd.func31, Tryd.ntmps31
  go_wp2_with fail
  obtain ⟨hsx, hbel⟩ := sx_new w s
  refine (HF.out _ (PM.below HP.out hbel)).mono ?_
  rintro e w1 ⟨rfl, nq, rfl⟩
  have HS := Lib.hid (hsx.drewN nq)
  have HB := Lib.hid (below_drewN hbel nq)
  obtain ⟨w1, hw1⟩ : ∃ w1, w1 = ((w.alloc (.cells (sC s) 51)).alloc (.cells (sC zS) 51)).drewN nq := ⟨_, rfl⟩
  rw [← hw1] at HS HB ⊢
  clear hw1 hsx hbel HF
  obtain ⟨n0, n1, n2, n3, n4, n5, n6, n7, n8, n9, n10, n11, n12⟩ := Blk.cells13 HS.out.b0
  obtain ⟨z0, z1, z2, z3, z4, z5, z6, z7, z8, z9, z10, z11, z12⟩ := Blk.cells13 HS.out.b1
  obtain ⟨f0, f1, f2, f3, f4, f5, f6, f7, f8, f9, f10, f11, f12⟩ := Blk.frozen13 HS.out.b1
  go_wp2_with fail
  refine (Tp.takeR hf hh _).mono ?_
  rintro e w2 ⟨rfl, hb⟩
  rw [HTF.out, show Tp.resV (1, ⟨D, N, M, i⟩, 0) = .tuple #[.agg #[.int .i64 1, .int .i64 D, .int .i64 N, .int .i64 M, .int .i64 i], .int .i64 (0 : Nat)] from rfl]
  have HS2 := Lib.hid (HS.out.below hb)
  have HB2 := Lib.hid (HB.out.trans (hb.mono HB.out.size))
  clear n0 n1 n2 n3 n4 n5 n6 n7 n8 n9 n10 n11 n12 z0 z1 z2 z3 z4 z5 z6 z7 z8 z9 z10 z11 z12 f0 f1 f2 f3 f4 f5 f6 f7 f8 f9 f10 f11 f12 hb HS HB
  go_upto_region 7 with fail
  have hx : Below w2.heap.size w2 (w2.alloc (.cells #[.int .i64 1, .int .i64 D, .int .i64 N, .int .i64 M, .int .i64 i] 58)) := (Below.refl _ _).alloc (Nat.le_refl _) _
  have HS3 := Lib.hid (HS2.out.below hx)
  have HB3 := Lib.hid (HB2.out.trans (hx.mono HB2.out.size))
  have HI3 := Lib.hid (Blk.new w2 58 #[.int .i64 1, .int .i64 D, .int .i64 N, .int .i64 M, .int .i64 i])
  have HG := Lib.hid (HS2.out.b1.lt)
  have HG3 := Lib.hid (HI3.out.lt)
  obtain ⟨w3, hw3⟩ : ∃ w3, w2.alloc (.cells #[.int .i64 1, .int .i64 D, .int .i64 N, .int .i64 M, .int .i64 i] 58) = w3 := ⟨_, rfl⟩
  rw [hw3] at HS3 HB3 HI3 HG3 ⊢
  generalize w2.heap.size = g at *
  clear hw3 hx HS2 HB2
  obtain ⟨n0, n1, n2, n3, n4, n5, n6, n7, n8, n9, n10, n11, n12⟩ := Blk.cells13 HS3.out.b0
  have i4 : w3.cell? ⟨g, 4, none⟩ = some (.int .i64 i) := HI3.out.cell 4
  have hbx := Blk.new w3 51 (sC s)
  have hxx : Below w3.heap.size w3 (w3.alloc (.cells (sC s) 51)) := (Below.refl _ _).alloc (Nat.le_refl _) _
  have hx0 : Below w3.heap.size w3 (w3.alloc (.cells (sC zS) 51)) := (Below.refl _ _).alloc (Nat.le_refl _) _
  have hSA := Sx.below HS3.out hx0
  have hIA := Blk.below HI3.out hx0 HG3.out
  have hS2 := Sx.below HS3.out hxx
  have hI2 := Blk.below HI3.out hxx HG3.out
  have hgl : w.heap.size + 1 < g := HG.out
  have hgl3 : g < w3.heap.size := HG3.out
  have HR := Lib.hid (show Rx w g w3.heap.size 1 D N M i s s (w3.alloc (.cells (sC s) 51)).drew from ⟨hS2.b0, hS2.b1, hI2, hbx, hgl, hgl3⟩)
  have HBW := Lib.hid (show Below w.heap.size w (w3.alloc (.cells (sC s) 51)).drew from (HB3.out.trans (hxx.mono HB3.out.size)).drew)
  have HL0 := Lib.hid (show K13e w.heap.size s w3 (w3.cell? ⟨g, 4, none⟩ = some (.int .i64 i)) from ⟨n0, n1, n2, n3, n4, n5, n6, n7, n8, n9, n10, n11, n12, i4⟩)
  have HL0d := Lib.hid (show K13e w.heap.size s (w3.drew) (w3.drew.cell? ⟨g, 4, none⟩ = some (.int .i64 i)) from ⟨n0, n1, n2, n3, n4, n5, n6, n7, n8, n9, n10, n11, n12, i4⟩)
  have HL1 := Lib.hid (show K13e w.heap.size s ((w3.alloc (.cells #[Value.int .u32 0, Value.int .u32 0, Value.int .u32 0, Value.int .u32 0, Value.int .u32 0, Value.int .u32 0, Value.int .u32 0, Value.int .u32 0, Value.int .u32 0, .bool false, .bool false, .bool false, .bool false] 51)).drew) ((w3.alloc (.cells #[Value.int .u32 0, Value.int .u32 0, Value.int .u32 0, Value.int .u32 0, Value.int .u32 0, Value.int .u32 0, Value.int .u32 0, Value.int .u32 0, Value.int .u32 0, .bool false, .bool false, .bool false, .bool false] 51)).drew.cell? ⟨g, 4, none⟩ = some (.int .i64 i)) from ⟨hSA.b0.cell 0, hSA.b0.cell 1, hSA.b0.cell 2, hSA.b0.cell 3, hSA.b0.cell 4, hSA.b0.cell 5, hSA.b0.cell 6, hSA.b0.cell 7, hSA.b0.cell 8, hSA.b0.cell 9, hSA.b0.cell 10, hSA.b0.cell 11, hSA.b0.cell 12, hIA.cell 4⟩)
  have HL3 := Lib.hid (show K13e w.heap.size s ((w3.alloc (.cells (sC s) 51)).drew) ((w3.alloc (.cells (sC s) 51)).drew.cell? ⟨g, 4, none⟩ = some (.int .i64 i)) from ⟨HR.out.b0.cell 0, HR.out.b0.cell 1, HR.out.b0.cell 2, HR.out.b0.cell 3, HR.out.b0.cell 4, HR.out.b0.cell 5, HR.out.b0.cell 6, HR.out.b0.cell 7, HR.out.b0.cell 8, HR.out.b0.cell 9, HR.out.b0.cell 10, HR.out.b0.cell 11, HR.out.b0.cell 12, HR.out.bi.cell 4⟩)
  clear hbx hxx hx0 hSA hIA hgl hgl3 hS2 hI2
  obtain ⟨imm, himm⟩ : ∃ imm, BitVec.ofInt 32 i = imm := ⟨_, rfl⟩
  obtain ⟨p2, hp2⟩ : ∃ p2, s.pc + 2#32 = p2 := ⟨_, rfl⟩
  have hw := wrap_ofInt i
  have hnp2 : IntKind.u32.wrap ((s.pc.toNat : Int) + 2) = ((s.pc + 2#32).toNat : Int) := by rw [IntKind.wrap_u32]; exact next_pc s.pc
  rw [himm] at hw
  rw [hp2] at hnp2
  have HIM := Lib.hid himm; have HP2 := Lib.hid hp2
  clear himm hp2
  go_region_held3 (fun w' => K13e w.heap.size s w' (w'.cell? ⟨g, 4, none⟩ = some (.int .i64 i))) (first | with_reducible exact HL0.out | with_reducible exact HL0d.out | with_reducible exact HL1.out | with_reducible exact HL3.out) (fail)
  clear HL0 HL0d HL1 HL3 n0 n1 n2 n3 n4 n5 n6 n7 n8 n9 n10 n11 n12 i4 HS3 HI3 HB3 HG HG3
  obtain ⟨w4, hw4⟩ : ∃ w4, (w3.alloc (.cells (sC s) 51)).drew = w4 := ⟨_, rfl⟩
  rw [hw4] at HR HBW
  simp only [sC] at hw4
  rw [hw4]
  clear hw4
  generalize w3.heap.size = g2 at *
  have i0 : w4.cell? ⟨g, 0, none⟩ = some (.int .i64 1) := HR.out.bi.cell 0
  have i1 : w4.cell? ⟨g, 1, none⟩ = some (.int .i64 D) := HR.out.bi.cell 1
  have i2 : w4.cell? ⟨g, 2, none⟩ = some (.int .i64 N) := HR.out.bi.cell 2
  have i3 : w4.cell? ⟨g, 3, none⟩ = some (.int .i64 M) := HR.out.bi.cell 3
  have rN := HR.out.b0.reg N hw0.n8
  have rM := HR.out.b0.reg M hw0.m8
  have hN2 : (N : Int) < 8 := by have := hw0.n8; omega
  have hM2 : (M : Int) < 8 := by have := hw0.m8; omega
  have hD8 : D < 8 := hw0.d8 (by decide)
  have rD := HR.out.b0.reg D hD8
  have hD2 : (D : Int) < 8 := by omega
  have hdm : (D : Int).tmod 8 = (D : Int) := by rw [tmod8, Nat.mod_eq_of_lt hD8]
  have hdm2 : (D : Int) % 8 = (D : Int) := by omega
  have HDM := Lib.hid hdm2
  go_wp2_with fail
  go_quiet (fail)
  have HR5 := Lib.hid (HR.out.drewN nq)
  have HB5 := Lib.hid (below_drewN HBW.out nq)
  generalize w4.drewN nq = w5 at *
  clear i0 i1 i2 i3 rN rM rD HR HBW
  have i0 : w5.cell? ⟨g, 0, none⟩ = some (.int .i64 1) := HR5.out.bi.cell 0
  have i1 : w5.cell? ⟨g, 1, none⟩ = some (.int .i64 D) := HR5.out.bi.cell 1
  have i4 : w5.cell? ⟨g, 4, none⟩ = some (.int .i64 i) := HR5.out.bi.cell 4
  obtain ⟨n0, n1, n2, n3, n4, n5, n6, n7, n8, n9, n10, n11, n12⟩ := Blk.cells13 HR5.out.b0
  obtain ⟨nb, hnb⟩ : ∃ nb, ~~~imm = nb := ⟨_, rfl⟩
  have hn := fun W => rnot imm W
  rw [hnb] at hn
  have HN := Lib.hid hn; have HNB := Lib.hid hnb
  clear hn hnb
  have hA := fun W => rsum s (s.r D) nb true (-1) (.inl rfl) W
  obtain ⟨xs, hxs⟩ : ∃ xs, putS (s.cv (sum3 (s.r D) nb true).c (sum3 (s.r D) nb true).v) (sum3 (s.r D) nb true).w (-1) = xs := ⟨_, rfl⟩
  rw [hxs] at hA
  have HXS := Lib.hid hxs; have HA := Lib.hid hA
  clear hA hxs
  have hlg := HR5.out.lg; have hlx := HR5.out.lx
  have HL0 := Lib.hid (show K13 w.heap.size s w5 from ⟨HR5.out.b0.cell 0, HR5.out.b0.cell 1, HR5.out.b0.cell 2, HR5.out.b0.cell 3, HR5.out.b0.cell 4, HR5.out.b0.cell 5, HR5.out.b0.cell 6, HR5.out.b0.cell 7, HR5.out.b0.cell 8, HR5.out.b0.cell 9, HR5.out.b0.cell 10, HR5.out.b0.cell 11, HR5.out.b0.cell 12⟩)
  have HL0d := Lib.hid (show K13 w.heap.size s (w5.drew) from ⟨HR5.out.b0.cell 0, HR5.out.b0.cell 1, HR5.out.b0.cell 2, HR5.out.b0.cell 3, HR5.out.b0.cell 4, HR5.out.b0.cell 5, HR5.out.b0.cell 6, HR5.out.b0.cell 7, HR5.out.b0.cell 8, HR5.out.b0.cell 9, HR5.out.b0.cell 10, HR5.out.b0.cell 11, HR5.out.b0.cell 12⟩)
  go_wp2_with fail
  go_region_held3 (fun w' => K13 w.heap.size s w') (first | with_reducible exact HL0.out | with_reducible exact HL0d.out | with_reducible exact HL1.out | with_reducible exact HL3.out) (first | (go_at_call 45; refine (HA.out _).mono ?_; rintro e w6 ⟨rfl, hb⟩; have HR6 := Lib.hid (HR5.out.drew.below hb); have HB6 := Lib.hid (HB5.out.drew.trans (hb.mono HB5.out.drew.size)); have HL1 := Lib.hid (show K13 w.heap.size s w6 from ⟨HR6.out.b0.cell 0, HR6.out.b0.cell 1, HR6.out.b0.cell 2, HR6.out.b0.cell 3, HR6.out.b0.cell 4, HR6.out.b0.cell 5, HR6.out.b0.cell 6, HR6.out.b0.cell 7, HR6.out.b0.cell 8, HR6.out.b0.cell 9, HR6.out.b0.cell 10, HR6.out.b0.cell 11, HR6.out.b0.cell 12⟩); obtain ⟨z0, z1, z2, z3, z4, z5, z6, z7, z8, z9, z10, z11, z12⟩ := Blk.cells13 HR6.out.bx; obtain ⟨f0, f1, f2, f3, f4, f5, f6, f7, f8, f9, f10, f11, f12⟩ := Blk.frozen13 HR6.out.bx; have HB9 := Lib.hid (blk13 HR6.out.bx xs); have HR9 := Lib.hid (HR6.out.next xs HB9.out.1 HB9.out.2); have HL3 := Lib.hid (show K13 w.heap.size s ((put13 w6 g2 xs)) from ⟨HR9.out.b0.cell 0, HR9.out.b0.cell 1, HR9.out.b0.cell 2, HR9.out.b0.cell 3, HR9.out.b0.cell 4, HR9.out.b0.cell 5, HR9.out.b0.cell 6, HR9.out.b0.cell 7, HR9.out.b0.cell 8, HR9.out.b0.cell 9, HR9.out.b0.cell 10, HR9.out.b0.cell 11, HR9.out.b0.cell 12⟩); clear hb) | (go_at_call 46; refine (HN.out _).mono ?_; rintro e w9 ⟨rfl, rfl⟩))
  have hU := HB9.out.2
  have HR7 := Lib.hid HR9.out
  have HU7 := Lib.hid (Upd.of_below (upd_low HB6.out hU (by omega)) h.X)
  have HP7 := Lib.hid (PM.below HP.out (upd_low HB6.out hU (by omega)))
  clear HL0 HL0d HL1 HL3 z0 z1 z2 z3 z4 z5 z6 z7 z8 z9 z10 z11 z12 f0 f1 f2 f3 f4 f5 f6 f7 f8 f9 f10 f11 f12 i0 i1 i4 n0 n1 n2 n3 n4 n5 n6 n7 n8 n9 n10 n11 n12 HR5 HB5 HB9 HR9 HR6 HB6 hU hlg hlx HA HN
  obtain ⟨w7, hw7⟩ : ∃ w7, put13 w6 g2 xs = w7 := ⟨_, rfl⟩
  rw [hw7] at HR7 HU7 HP7
  simp only [put13] at hw7
  rw [hw7]
  clear hw7
  go_upto_region 50 with fail
  have n8 := HR7.out.bx.cell 8
  have f8 := HR7.out.bx.frozen 8
  have n8' : w7.cell? ⟨g2, 8, none⟩ = some (u xs.pc) := n8
  go_upto_region 53 with fail
  clear n8 n8' f8
  have hlg := HR7.out.lg; have hlx := HR7.out.lx
  have hU := upd_set w7 g2 8 (u p2) (Upd.refl _ w7)
  have HR8 := Lib.hid (HR7.out.next (xs.to p2) (blk_one HR7.out.bx 8 (u p2) rfl) hU)
  have HU8 := Lib.hid (upd_b HU7.out hU (by omega))
  have HP8 := Lib.hid (PM.upd HP7.out hU (fun k hk e => by have := HBB.out k hk; omega))
  obtain ⟨s8, hs8⟩ : ∃ s8, xs.to p2 = s8 := ⟨_, rfl⟩
  rw [hs8] at HR8
  have HS8 := Lib.hid hs8
  clear hs8 hU HR7 HU7 HP7 hlg hlx
  generalize w7.setCell ⟨g2, 8, none⟩ (u p2) = w9 at *
  obtain ⟨n0, n1, n2, n3, n4, n5, n6, n7, n8, n9, n10, n11, n12⟩ := Blk.cells13 HR8.out.bx
  obtain ⟨z0, z1, z2, z3, z4, z5, z6, z7, z8, z9, z10, z11, z12⟩ := Blk.cells13 HR8.out.b1
  obtain ⟨f0, f1, f2, f3, f4, f5, f6, f7, f8, f9, f10, f11, f12⟩ := Blk.frozen13 HR8.out.b1
  go_wp2_with fail
  clear n0 n1 n2 n3 n4 n5 n6 n7 n8 n9 n10 n11 n12 z0 z1 z2 z3 z4 z5 z6 z7 z8 z9 z10 z11 z12 f0 f1 f2 f3 f4 f5 f6 f7 f8 f9 f10 f11 f12
  obtain ⟨hB, hU⟩ := blk13 HR8.out.b1 s8
  have HL := Lib.hid (upd_b HU8.out hU (by omega))
  have HPL := Lib.hid (PM.upd (HP8.out) hU (fun k hk e => by have := HBB.out k hk; omega))
  obtain ⟨w8, hw8⟩ : ∃ w8, put13 w9 (w.heap.size + 1) s8 = w8 := ⟨_, rfl⟩
  rw [hw8] at hB HL HPL
  simp only [put13] at hw8
  rw [hw8]
  clear hw8 hU
  obtain ⟨n0, n1, n2, n3, n4, n5, n6, n7, n8, n9, n10, n11, n12⟩ := Blk.cells13 hB
  exact bodyPost_ret (v := .tuple #[sv s8, .bool false, .int .i64 0]) (by simp [results, Tryd.results31, go_sem, n0, n1, n2, n3, n4, n5, n6, n7, n8, n9, n10, n11, n12]) rfl ⟨by rw [← HS8.out, ← HXS.out, ← HNB.out, ← HP2.out, ← HIM.out]; rfl, HPL.out, HL.out⟩
set_option maxRecDepth 100000 in
set_option maxHeartbeats 2000000 in
theorem rst3 (s : S) (n0 : Nat) (h : Hd) (m : St) (w : World) (p : RP n0 h m w) (hf : Nat) (hh : hf < 65536) (hfe : fetchV m (s.pc.toNat : Int) = ((hf : Int), 0)) (D N M : Nat) (i : Int) (hw0 : Wi 3 D N M i) (htf : Tp.takeF 21 0 hf = (3, ⟨D, N, M, i⟩, 0)) : Calls Tryd.prog 31 #[sv s, ptr h.r] w (RpEnd n0 h ((doS 3 D N M i s m).1, false, 0, m) w) := by
  have HTF := Lib.hid htf
  clear htf
  have hX : ∀ k, h.X k → k < w.heap.size := fun k hk => (p.lt (Hd.XB hk)).2
  have hBB : ∀ k, h.B k → k < w.heap.size := fun k hk => (p.lt hk).2
  have hF := fun W p => MmR.fetch n0 h m W (s.pc.toNat : Int) (by omega) (bd s.pc) p
  rw [hfe] at hF
  have HX := Lib.hid hX; have HBB := Lib.hid hBB; have HP := Lib.hid p; have HF := Lib.hid hF
  clear hX hBB p hF hfe
  go_enter Tryd.func31, Tryd.ntmps31
  go_wp2_with fail
  obtain ⟨hsx, hbel⟩ := sx_new w s
  refine (HF.out _ (PM.below HP.out hbel)).mono ?_
  rintro e w1 ⟨rfl, nq, rfl⟩
  have HS := Lib.hid (hsx.drewN nq)
  have HB := Lib.hid (below_drewN hbel nq)
  obtain ⟨w1, hw1⟩ : ∃ w1, w1 = ((w.alloc (.cells (sC s) 51)).alloc (.cells (sC zS) 51)).drewN nq := ⟨_, rfl⟩
  rw [← hw1] at HS HB ⊢
  clear hw1 hsx hbel HF
  obtain ⟨n0, n1, n2, n3, n4, n5, n6, n7, n8, n9, n10, n11, n12⟩ := Blk.cells13 HS.out.b0
  obtain ⟨z0, z1, z2, z3, z4, z5, z6, z7, z8, z9, z10, z11, z12⟩ := Blk.cells13 HS.out.b1
  obtain ⟨f0, f1, f2, f3, f4, f5, f6, f7, f8, f9, f10, f11, f12⟩ := Blk.frozen13 HS.out.b1
  go_wp2_with fail
  refine (Tp.takeR hf hh _).mono ?_
  rintro e w2 ⟨rfl, hb⟩
  rw [HTF.out, show Tp.resV (3, ⟨D, N, M, i⟩, 0) = .tuple #[.agg #[.int .i64 3, .int .i64 D, .int .i64 N, .int .i64 M, .int .i64 i], .int .i64 (0 : Nat)] from rfl]
  have HS2 := Lib.hid (HS.out.below hb)
  have HB2 := Lib.hid (HB.out.trans (hb.mono HB.out.size))
  clear n0 n1 n2 n3 n4 n5 n6 n7 n8 n9 n10 n11 n12 z0 z1 z2 z3 z4 z5 z6 z7 z8 z9 z10 z11 z12 f0 f1 f2 f3 f4 f5 f6 f7 f8 f9 f10 f11 f12 hb HS HB
  go_upto_region 7 with fail
  have hx : Below w2.heap.size w2 (w2.alloc (.cells #[.int .i64 3, .int .i64 D, .int .i64 N, .int .i64 M, .int .i64 i] 58)) := (Below.refl _ _).alloc (Nat.le_refl _) _
  have HS3 := Lib.hid (HS2.out.below hx)
  have HB3 := Lib.hid (HB2.out.trans (hx.mono HB2.out.size))
  have HI3 := Lib.hid (Blk.new w2 58 #[.int .i64 3, .int .i64 D, .int .i64 N, .int .i64 M, .int .i64 i])
  have HG := Lib.hid (HS2.out.b1.lt)
  have HG3 := Lib.hid (HI3.out.lt)
  obtain ⟨w3, hw3⟩ : ∃ w3, w2.alloc (.cells #[.int .i64 3, .int .i64 D, .int .i64 N, .int .i64 M, .int .i64 i] 58) = w3 := ⟨_, rfl⟩
  rw [hw3] at HS3 HB3 HI3 HG3 ⊢
  generalize w2.heap.size = g at *
  clear hw3 hx HS2 HB2
  obtain ⟨n0, n1, n2, n3, n4, n5, n6, n7, n8, n9, n10, n11, n12⟩ := Blk.cells13 HS3.out.b0
  have i4 : w3.cell? ⟨g, 4, none⟩ = some (.int .i64 i) := HI3.out.cell 4
  have hbx := Blk.new w3 51 (sC s)
  have hxx : Below w3.heap.size w3 (w3.alloc (.cells (sC s) 51)) := (Below.refl _ _).alloc (Nat.le_refl _) _
  have hx0 : Below w3.heap.size w3 (w3.alloc (.cells (sC zS) 51)) := (Below.refl _ _).alloc (Nat.le_refl _) _
  have hSA := Sx.below HS3.out hx0
  have hIA := Blk.below HI3.out hx0 HG3.out
  have hS2 := Sx.below HS3.out hxx
  have hI2 := Blk.below HI3.out hxx HG3.out
  have hgl : w.heap.size + 1 < g := HG.out
  have hgl3 : g < w3.heap.size := HG3.out
  have HR := Lib.hid (show Rx w g w3.heap.size 3 D N M i s s (w3.alloc (.cells (sC s) 51)).drew from ⟨hS2.b0, hS2.b1, hI2, hbx, hgl, hgl3⟩)
  have HBW := Lib.hid (show Below w.heap.size w (w3.alloc (.cells (sC s) 51)).drew from (HB3.out.trans (hxx.mono HB3.out.size)).drew)
  have HL0 := Lib.hid (show K13e w.heap.size s w3 (w3.cell? ⟨g, 4, none⟩ = some (.int .i64 i)) from ⟨n0, n1, n2, n3, n4, n5, n6, n7, n8, n9, n10, n11, n12, i4⟩)
  have HL0d := Lib.hid (show K13e w.heap.size s (w3.drew) (w3.drew.cell? ⟨g, 4, none⟩ = some (.int .i64 i)) from ⟨n0, n1, n2, n3, n4, n5, n6, n7, n8, n9, n10, n11, n12, i4⟩)
  have HL1 := Lib.hid (show K13e w.heap.size s ((w3.alloc (.cells #[Value.int .u32 0, Value.int .u32 0, Value.int .u32 0, Value.int .u32 0, Value.int .u32 0, Value.int .u32 0, Value.int .u32 0, Value.int .u32 0, Value.int .u32 0, .bool false, .bool false, .bool false, .bool false] 51)).drew) ((w3.alloc (.cells #[Value.int .u32 0, Value.int .u32 0, Value.int .u32 0, Value.int .u32 0, Value.int .u32 0, Value.int .u32 0, Value.int .u32 0, Value.int .u32 0, Value.int .u32 0, .bool false, .bool false, .bool false, .bool false] 51)).drew.cell? ⟨g, 4, none⟩ = some (.int .i64 i)) from ⟨hSA.b0.cell 0, hSA.b0.cell 1, hSA.b0.cell 2, hSA.b0.cell 3, hSA.b0.cell 4, hSA.b0.cell 5, hSA.b0.cell 6, hSA.b0.cell 7, hSA.b0.cell 8, hSA.b0.cell 9, hSA.b0.cell 10, hSA.b0.cell 11, hSA.b0.cell 12, hIA.cell 4⟩)
  have HL3 := Lib.hid (show K13e w.heap.size s ((w3.alloc (.cells (sC s) 51)).drew) ((w3.alloc (.cells (sC s) 51)).drew.cell? ⟨g, 4, none⟩ = some (.int .i64 i)) from ⟨HR.out.b0.cell 0, HR.out.b0.cell 1, HR.out.b0.cell 2, HR.out.b0.cell 3, HR.out.b0.cell 4, HR.out.b0.cell 5, HR.out.b0.cell 6, HR.out.b0.cell 7, HR.out.b0.cell 8, HR.out.b0.cell 9, HR.out.b0.cell 10, HR.out.b0.cell 11, HR.out.b0.cell 12, HR.out.bi.cell 4⟩)
  clear hbx hxx hx0 hSA hIA hgl hgl3 hS2 hI2
  obtain ⟨imm, himm⟩ : ∃ imm, BitVec.ofInt 32 i = imm := ⟨_, rfl⟩
  obtain ⟨p2, hp2⟩ : ∃ p2, s.pc + 2#32 = p2 := ⟨_, rfl⟩
  have hw := wrap_ofInt i
  have hnp2 : IntKind.u32.wrap ((s.pc.toNat : Int) + 2) = ((s.pc + 2#32).toNat : Int) := by rw [IntKind.wrap_u32]; exact next_pc s.pc
  rw [himm] at hw
  rw [hp2] at hnp2
  have HIM := Lib.hid himm; have HP2 := Lib.hid hp2
  clear himm hp2
  go_region_held3 (fun w' => K13e w.heap.size s w' (w'.cell? ⟨g, 4, none⟩ = some (.int .i64 i))) (first | with_reducible exact HL0.out | with_reducible exact HL0d.out | with_reducible exact HL1.out | with_reducible exact HL3.out) (fail)
  clear HL0 HL0d HL1 HL3 n0 n1 n2 n3 n4 n5 n6 n7 n8 n9 n10 n11 n12 i4 HS3 HI3 HB3 HG HG3
  obtain ⟨w4, hw4⟩ : ∃ w4, (w3.alloc (.cells (sC s) 51)).drew = w4 := ⟨_, rfl⟩
  rw [hw4] at HR HBW
  simp only [sC] at hw4
  rw [hw4]
  clear hw4
  generalize w3.heap.size = g2 at *
  have i0 : w4.cell? ⟨g, 0, none⟩ = some (.int .i64 3) := HR.out.bi.cell 0
  have i1 : w4.cell? ⟨g, 1, none⟩ = some (.int .i64 D) := HR.out.bi.cell 1
  have i2 : w4.cell? ⟨g, 2, none⟩ = some (.int .i64 N) := HR.out.bi.cell 2
  have i3 : w4.cell? ⟨g, 3, none⟩ = some (.int .i64 M) := HR.out.bi.cell 3
  have rN := HR.out.b0.reg N hw0.n8
  have rM := HR.out.b0.reg M hw0.m8
  have hN2 : (N : Int) < 8 := by have := hw0.n8; omega
  have hM2 : (M : Int) < 8 := by have := hw0.m8; omega
  have hD8 : D < 8 := hw0.d8 (by decide)
  have rD := HR.out.b0.reg D hD8
  have hD2 : (D : Int) < 8 := by omega
  have hdm : (D : Int).tmod 8 = (D : Int) := by rw [tmod8, Nat.mod_eq_of_lt hD8]
  have hdm2 : (D : Int) % 8 = (D : Int) := by omega
  have HDM := Lib.hid hdm2
  go_wp2_with fail
  go_quiet (fail)
  have HR5 := Lib.hid (HR.out.drewN nq)
  have HB5 := Lib.hid (below_drewN HBW.out nq)
  generalize w4.drewN nq = w5 at *
  clear i0 i1 i2 i3 rN rM rD HR HBW
  have i0 : w5.cell? ⟨g, 0, none⟩ = some (.int .i64 3) := HR5.out.bi.cell 0
  have i1 : w5.cell? ⟨g, 1, none⟩ = some (.int .i64 D) := HR5.out.bi.cell 1
  have i4 : w5.cell? ⟨g, 4, none⟩ = some (.int .i64 i) := HR5.out.bi.cell 4
  obtain ⟨n0, n1, n2, n3, n4, n5, n6, n7, n8, n9, n10, n11, n12⟩ := Blk.cells13 HR5.out.b0
  obtain ⟨nb, hnb⟩ : ∃ nb, ~~~imm = nb := ⟨_, rfl⟩
  have hn := fun W => rnot imm W
  rw [hnb] at hn
  have HN := Lib.hid hn; have HNB := Lib.hid hnb
  clear hn hnb
  have hA := fun W => rsum s (s.r D) nb true (D : Int) (.inr ⟨by omega, by omega⟩) W
  obtain ⟨xs, hxs⟩ : ∃ xs, putS (s.cv (sum3 (s.r D) nb true).c (sum3 (s.r D) nb true).v) (sum3 (s.r D) nb true).w (D : Int) = xs := ⟨_, rfl⟩
  rw [hxs] at hA
  have HXS := Lib.hid hxs; have HA := Lib.hid hA
  clear hA hxs
  have hlg := HR5.out.lg; have hlx := HR5.out.lx
  have HL0 := Lib.hid (show K13e w.heap.size s w5 (w5.cell? ⟨g, 1, none⟩ = some (.int .i64 D)) from ⟨HR5.out.b0.cell 0, HR5.out.b0.cell 1, HR5.out.b0.cell 2, HR5.out.b0.cell 3, HR5.out.b0.cell 4, HR5.out.b0.cell 5, HR5.out.b0.cell 6, HR5.out.b0.cell 7, HR5.out.b0.cell 8, HR5.out.b0.cell 9, HR5.out.b0.cell 10, HR5.out.b0.cell 11, HR5.out.b0.cell 12, HR5.out.bi.cell 1⟩)
  have HL0d := Lib.hid (show K13e w.heap.size s (w5.drew) (w5.drew.cell? ⟨g, 1, none⟩ = some (.int .i64 D)) from ⟨HR5.out.b0.cell 0, HR5.out.b0.cell 1, HR5.out.b0.cell 2, HR5.out.b0.cell 3, HR5.out.b0.cell 4, HR5.out.b0.cell 5, HR5.out.b0.cell 6, HR5.out.b0.cell 7, HR5.out.b0.cell 8, HR5.out.b0.cell 9, HR5.out.b0.cell 10, HR5.out.b0.cell 11, HR5.out.b0.cell 12, HR5.out.bi.cell 1⟩)
  go_wp2_with fail
  go_region_held3 (fun w' => K13e w.heap.size s w' (w'.cell? ⟨g, 1, none⟩ = some (.int .i64 D))) (first | with_reducible exact HL0.out | with_reducible exact HL0d.out | with_reducible exact HL1.out | with_reducible exact HL3.out) (first | (go_at_call 45; refine (HA.out _).mono ?_; rintro e w6 ⟨rfl, hb⟩; have HR6 := Lib.hid (HR5.out.drew.below hb); have HB6 := Lib.hid (HB5.out.drew.trans (hb.mono HB5.out.drew.size)); have HL1 := Lib.hid (show K13e w.heap.size s w6 (w6.cell? ⟨g, 1, none⟩ = some (.int .i64 D)) from ⟨HR6.out.b0.cell 0, HR6.out.b0.cell 1, HR6.out.b0.cell 2, HR6.out.b0.cell 3, HR6.out.b0.cell 4, HR6.out.b0.cell 5, HR6.out.b0.cell 6, HR6.out.b0.cell 7, HR6.out.b0.cell 8, HR6.out.b0.cell 9, HR6.out.b0.cell 10, HR6.out.b0.cell 11, HR6.out.b0.cell 12, HR6.out.bi.cell 1⟩); obtain ⟨z0, z1, z2, z3, z4, z5, z6, z7, z8, z9, z10, z11, z12⟩ := Blk.cells13 HR6.out.bx; obtain ⟨f0, f1, f2, f3, f4, f5, f6, f7, f8, f9, f10, f11, f12⟩ := Blk.frozen13 HR6.out.bx; have HB9 := Lib.hid (blk13 HR6.out.bx xs); have HR9 := Lib.hid (HR6.out.next xs HB9.out.1 HB9.out.2); have HL3 := Lib.hid (show K13e w.heap.size s ((put13 w6 g2 xs)) ((put13 w6 g2 xs).cell? ⟨g, 1, none⟩ = some (.int .i64 D)) from ⟨HR9.out.b0.cell 0, HR9.out.b0.cell 1, HR9.out.b0.cell 2, HR9.out.b0.cell 3, HR9.out.b0.cell 4, HR9.out.b0.cell 5, HR9.out.b0.cell 6, HR9.out.b0.cell 7, HR9.out.b0.cell 8, HR9.out.b0.cell 9, HR9.out.b0.cell 10, HR9.out.b0.cell 11, HR9.out.b0.cell 12, HR9.out.bi.cell 1⟩); clear hb) | (go_at_call 46; refine (HN.out _).mono ?_; rintro e w9 ⟨rfl, rfl⟩))
  have hU := HB9.out.2
  have HR7 := Lib.hid HR9.out
  have HU7 := Lib.hid (Upd.of_below (upd_low HB6.out hU (by omega)) h.X)
  have HP7 := Lib.hid (PM.below HP.out (upd_low HB6.out hU (by omega)))
  clear HL0 HL0d HL1 HL3 z0 z1 z2 z3 z4 z5 z6 z7 z8 z9 z10 z11 z12 f0 f1 f2 f3 f4 f5 f6 f7 f8 f9 f10 f11 f12 i0 i1 i4 n0 n1 n2 n3 n4 n5 n6 n7 n8 n9 n10 n11 n12 HR5 HB5 HB9 HR9 HR6 HB6 hU hlg hlx HA HN
  obtain ⟨w7, hw7⟩ : ∃ w7, put13 w6 g2 xs = w7 := ⟨_, rfl⟩
  rw [hw7] at HR7 HU7 HP7
  simp only [put13] at hw7
  rw [hw7]
  clear hw7
  go_upto_region 50 with fail
  have n8 := HR7.out.bx.cell 8
  have f8 := HR7.out.bx.frozen 8
  have n8' : w7.cell? ⟨g2, 8, none⟩ = some (u xs.pc) := n8
  go_upto_region 53 with fail
  clear n8 n8' f8
  have hlg := HR7.out.lg; have hlx := HR7.out.lx
  have hU := upd_set w7 g2 8 (u p2) (Upd.refl _ w7)
  have HR8 := Lib.hid (HR7.out.next (xs.to p2) (blk_one HR7.out.bx 8 (u p2) rfl) hU)
  have HU8 := Lib.hid (upd_b HU7.out hU (by omega))
  have HP8 := Lib.hid (PM.upd HP7.out hU (fun k hk e => by have := HBB.out k hk; omega))
  obtain ⟨s8, hs8⟩ : ∃ s8, xs.to p2 = s8 := ⟨_, rfl⟩
  rw [hs8] at HR8
  have HS8 := Lib.hid hs8
  clear hs8 hU HR7 HU7 HP7 hlg hlx
  generalize w7.setCell ⟨g2, 8, none⟩ (u p2) = w9 at *
  obtain ⟨n0, n1, n2, n3, n4, n5, n6, n7, n8, n9, n10, n11, n12⟩ := Blk.cells13 HR8.out.bx
  obtain ⟨z0, z1, z2, z3, z4, z5, z6, z7, z8, z9, z10, z11, z12⟩ := Blk.cells13 HR8.out.b1
  obtain ⟨f0, f1, f2, f3, f4, f5, f6, f7, f8, f9, f10, f11, f12⟩ := Blk.frozen13 HR8.out.b1
  go_wp2_with fail
  clear n0 n1 n2 n3 n4 n5 n6 n7 n8 n9 n10 n11 n12 z0 z1 z2 z3 z4 z5 z6 z7 z8 z9 z10 z11 z12 f0 f1 f2 f3 f4 f5 f6 f7 f8 f9 f10 f11 f12
  obtain ⟨hB, hU⟩ := blk13 HR8.out.b1 s8
  have HL := Lib.hid (upd_b HU8.out hU (by omega))
  have HPL := Lib.hid (PM.upd (HP8.out) hU (fun k hk e => by have := HBB.out k hk; omega))
  obtain ⟨w8, hw8⟩ : ∃ w8, put13 w9 (w.heap.size + 1) s8 = w8 := ⟨_, rfl⟩
  rw [hw8] at hB HL HPL
  simp only [put13] at hw8
  rw [hw8]
  clear hw8 hU
  obtain ⟨n0, n1, n2, n3, n4, n5, n6, n7, n8, n9, n10, n11, n12⟩ := Blk.cells13 hB
  exact bodyPost_ret (v := .tuple #[sv s8, .bool false, .int .i64 0]) (by simp [results, Tryd.results31, go_sem, n0, n1, n2, n3, n4, n5, n6, n7, n8, n9, n10, n11, n12]) rfl ⟨by rw [← HS8.out, ← HXS.out, ← HNB.out, ← HP2.out, ← HIM.out]; rfl, HPL.out, HL.out⟩
set_option maxRecDepth 100000 in
set_option maxHeartbeats 2000000 in
theorem rst10 (s : S) (n0 : Nat) (h : Hd) (m : St) (w : World) (p : RP n0 h m w) (hf : Nat) (hh : hf < 65536) (hfe : fetchV m (s.pc.toNat : Int) = ((hf : Int), 0)) (D N M : Nat) (i : Int) (hw0 : Wi 10 D N M i) (htf : Tp.takeF 21 0 hf = (10, ⟨D, N, M, i⟩, 0)) : Calls Tryd.prog 31 #[sv s, ptr h.r] w (RpEnd n0 h ((doS 10 D N M i s m).1, false, 0, m) w) := by
  have HTF := Lib.hid htf
  clear htf
  have hX : ∀ k, h.X k → k < w.heap.size := fun k hk => (p.lt (Hd.XB hk)).2
  have hBB : ∀ k, h.B k → k < w.heap.size := fun k hk => (p.lt hk).2
  have hF := fun W p => MmR.fetch n0 h m W (s.pc.toNat : Int) (by omega) (bd s.pc) p
  rw [hfe] at hF
  have HX := Lib.hid hX; have HBB := Lib.hid hBB; have HP := Lib.hid p; have HF := Lib.hid hF
  clear hX hBB p hF hfe
  go_enter Tryd.func31, Tryd.ntmps31
  go_wp2_with fail
  obtain ⟨hsx, hbel⟩ := sx_new w s
  refine (HF.out _ (PM.below HP.out hbel)).mono ?_
  rintro e w1 ⟨rfl, nq, rfl⟩
  have HS := Lib.hid (hsx.drewN nq)
  have HB := Lib.hid (below_drewN hbel nq)
  obtain ⟨w1, hw1⟩ : ∃ w1, w1 = ((w.alloc (.cells (sC s) 51)).alloc (.cells (sC zS) 51)).drewN nq := ⟨_, rfl⟩
  rw [← hw1] at HS HB ⊢
  clear hw1 hsx hbel HF
  obtain ⟨n0, n1, n2, n3, n4, n5, n6, n7, n8, n9, n10, n11, n12⟩ := Blk.cells13 HS.out.b0
  obtain ⟨z0, z1, z2, z3, z4, z5, z6, z7, z8, z9, z10, z11, z12⟩ := Blk.cells13 HS.out.b1
  obtain ⟨f0, f1, f2, f3, f4, f5, f6, f7, f8, f9, f10, f11, f12⟩ := Blk.frozen13 HS.out.b1
  go_wp2_with fail
  refine (Tp.takeR hf hh _).mono ?_
  rintro e w2 ⟨rfl, hb⟩
  rw [HTF.out, show Tp.resV (10, ⟨D, N, M, i⟩, 0) = .tuple #[.agg #[.int .i64 10, .int .i64 D, .int .i64 N, .int .i64 M, .int .i64 i], .int .i64 (0 : Nat)] from rfl]
  have HS2 := Lib.hid (HS.out.below hb)
  have HB2 := Lib.hid (HB.out.trans (hb.mono HB.out.size))
  clear n0 n1 n2 n3 n4 n5 n6 n7 n8 n9 n10 n11 n12 z0 z1 z2 z3 z4 z5 z6 z7 z8 z9 z10 z11 z12 f0 f1 f2 f3 f4 f5 f6 f7 f8 f9 f10 f11 f12 hb HS HB
  go_upto_region 7 with fail
  have hx : Below w2.heap.size w2 (w2.alloc (.cells #[.int .i64 10, .int .i64 D, .int .i64 N, .int .i64 M, .int .i64 i] 58)) := (Below.refl _ _).alloc (Nat.le_refl _) _
  have HS3 := Lib.hid (HS2.out.below hx)
  have HB3 := Lib.hid (HB2.out.trans (hx.mono HB2.out.size))
  have HI3 := Lib.hid (Blk.new w2 58 #[.int .i64 10, .int .i64 D, .int .i64 N, .int .i64 M, .int .i64 i])
  have HG := Lib.hid (HS2.out.b1.lt)
  have HG3 := Lib.hid (HI3.out.lt)
  obtain ⟨w3, hw3⟩ : ∃ w3, w2.alloc (.cells #[.int .i64 10, .int .i64 D, .int .i64 N, .int .i64 M, .int .i64 i] 58) = w3 := ⟨_, rfl⟩
  rw [hw3] at HS3 HB3 HI3 HG3 ⊢
  generalize w2.heap.size = g at *
  clear hw3 hx HS2 HB2
  obtain ⟨n0, n1, n2, n3, n4, n5, n6, n7, n8, n9, n10, n11, n12⟩ := Blk.cells13 HS3.out.b0
  have i4 : w3.cell? ⟨g, 4, none⟩ = some (.int .i64 i) := HI3.out.cell 4
  have hbx := Blk.new w3 51 (sC s)
  have hxx : Below w3.heap.size w3 (w3.alloc (.cells (sC s) 51)) := (Below.refl _ _).alloc (Nat.le_refl _) _
  have hx0 : Below w3.heap.size w3 (w3.alloc (.cells (sC zS) 51)) := (Below.refl _ _).alloc (Nat.le_refl _) _
  have hSA := Sx.below HS3.out hx0
  have hIA := Blk.below HI3.out hx0 HG3.out
  have hS2 := Sx.below HS3.out hxx
  have hI2 := Blk.below HI3.out hxx HG3.out
  have hgl : w.heap.size + 1 < g := HG.out
  have hgl3 : g < w3.heap.size := HG3.out
  have HR := Lib.hid (show Rx w g w3.heap.size 10 D N M i s s (w3.alloc (.cells (sC s) 51)).drew from ⟨hS2.b0, hS2.b1, hI2, hbx, hgl, hgl3⟩)
  have HBW := Lib.hid (show Below w.heap.size w (w3.alloc (.cells (sC s) 51)).drew from (HB3.out.trans (hxx.mono HB3.out.size)).drew)
  have HL0 := Lib.hid (show K13e w.heap.size s w3 (w3.cell? ⟨g, 4, none⟩ = some (.int .i64 i)) from ⟨n0, n1, n2, n3, n4, n5, n6, n7, n8, n9, n10, n11, n12, i4⟩)
  have HL0d := Lib.hid (show K13e w.heap.size s (w3.drew) (w3.drew.cell? ⟨g, 4, none⟩ = some (.int .i64 i)) from ⟨n0, n1, n2, n3, n4, n5, n6, n7, n8, n9, n10, n11, n12, i4⟩)
  have HL1 := Lib.hid (show K13e w.heap.size s ((w3.alloc (.cells #[Value.int .u32 0, Value.int .u32 0, Value.int .u32 0, Value.int .u32 0, Value.int .u32 0, Value.int .u32 0, Value.int .u32 0, Value.int .u32 0, Value.int .u32 0, .bool false, .bool false, .bool false, .bool false] 51)).drew) ((w3.alloc (.cells #[Value.int .u32 0, Value.int .u32 0, Value.int .u32 0, Value.int .u32 0, Value.int .u32 0, Value.int .u32 0, Value.int .u32 0, Value.int .u32 0, Value.int .u32 0, .bool false, .bool false, .bool false, .bool false] 51)).drew.cell? ⟨g, 4, none⟩ = some (.int .i64 i)) from ⟨hSA.b0.cell 0, hSA.b0.cell 1, hSA.b0.cell 2, hSA.b0.cell 3, hSA.b0.cell 4, hSA.b0.cell 5, hSA.b0.cell 6, hSA.b0.cell 7, hSA.b0.cell 8, hSA.b0.cell 9, hSA.b0.cell 10, hSA.b0.cell 11, hSA.b0.cell 12, hIA.cell 4⟩)
  have HL3 := Lib.hid (show K13e w.heap.size s ((w3.alloc (.cells (sC s) 51)).drew) ((w3.alloc (.cells (sC s) 51)).drew.cell? ⟨g, 4, none⟩ = some (.int .i64 i)) from ⟨HR.out.b0.cell 0, HR.out.b0.cell 1, HR.out.b0.cell 2, HR.out.b0.cell 3, HR.out.b0.cell 4, HR.out.b0.cell 5, HR.out.b0.cell 6, HR.out.b0.cell 7, HR.out.b0.cell 8, HR.out.b0.cell 9, HR.out.b0.cell 10, HR.out.b0.cell 11, HR.out.b0.cell 12, HR.out.bi.cell 4⟩)
  clear hbx hxx hx0 hSA hIA hgl hgl3 hS2 hI2
  obtain ⟨imm, himm⟩ : ∃ imm, BitVec.ofInt 32 i = imm := ⟨_, rfl⟩
  obtain ⟨p2, hp2⟩ : ∃ p2, s.pc + 2#32 = p2 := ⟨_, rfl⟩
  have hw := wrap_ofInt i
  have hnp2 : IntKind.u32.wrap ((s.pc.toNat : Int) + 2) = ((s.pc + 2#32).toNat : Int) := by rw [IntKind.wrap_u32]; exact next_pc s.pc
  rw [himm] at hw
  rw [hp2] at hnp2
  have HIM := Lib.hid himm; have HP2 := Lib.hid hp2
  clear himm hp2
  go_region_held3 (fun w' => K13e w.heap.size s w' (w'.cell? ⟨g, 4, none⟩ = some (.int .i64 i))) (first | with_reducible exact HL0.out | with_reducible exact HL0d.out | with_reducible exact HL1.out | with_reducible exact HL3.out) (fail)
  clear HL0 HL0d HL1 HL3 n0 n1 n2 n3 n4 n5 n6 n7 n8 n9 n10 n11 n12 i4 HS3 HI3 HB3 HG HG3
  obtain ⟨w4, hw4⟩ : ∃ w4, (w3.alloc (.cells (sC s) 51)).drew = w4 := ⟨_, rfl⟩
  rw [hw4] at HR HBW
  simp only [sC] at hw4
  rw [hw4]
  clear hw4
  generalize w3.heap.size = g2 at *
  have i0 : w4.cell? ⟨g, 0, none⟩ = some (.int .i64 10) := HR.out.bi.cell 0
  have i1 : w4.cell? ⟨g, 1, none⟩ = some (.int .i64 D) := HR.out.bi.cell 1
  have i2 : w4.cell? ⟨g, 2, none⟩ = some (.int .i64 N) := HR.out.bi.cell 2
  have i3 : w4.cell? ⟨g, 3, none⟩ = some (.int .i64 M) := HR.out.bi.cell 3
  have rN := HR.out.b0.reg N hw0.n8
  have rM := HR.out.b0.reg M hw0.m8
  have hN2 : (N : Int) < 8 := by have := hw0.n8; omega
  have hM2 : (M : Int) < 8 := by have := hw0.m8; omega
  have hD8 : D < 8 := hw0.d8 (by decide)
  have rD := HR.out.b0.reg D hD8
  have hD2 : (D : Int) < 8 := by omega
  have hdm : (D : Int).tmod 8 = (D : Int) := by rw [tmod8, Nat.mod_eq_of_lt hD8]
  have hdm2 : (D : Int) % 8 = (D : Int) := by omega
  have HDM := Lib.hid hdm2
  go_wp2_with fail
  go_quiet (fail)
  have HR5 := Lib.hid (HR.out.drewN nq)
  have HB5 := Lib.hid (below_drewN HBW.out nq)
  generalize w4.drewN nq = w5 at *
  clear i0 i1 i2 i3 rN rM rD HR HBW
  have i0 : w5.cell? ⟨g, 0, none⟩ = some (.int .i64 10) := HR5.out.bi.cell 0
  have i1 : w5.cell? ⟨g, 1, none⟩ = some (.int .i64 D) := HR5.out.bi.cell 1
  have i4 : w5.cell? ⟨g, 4, none⟩ = some (.int .i64 i) := HR5.out.bi.cell 4
  obtain ⟨n0, n1, n2, n3, n4, n5, n6, n7, n8, n9, n10, n11, n12⟩ := Blk.cells13 HR5.out.b0
  obtain ⟨nb, hnb⟩ : ∃ nb, ~~~imm = nb := ⟨_, rfl⟩
  have hn := fun W => rnot imm W
  rw [hnb] at hn
  have HN := Lib.hid hn; have HNB := Lib.hid hnb
  clear hn hnb
  have hA := fun W => rsum s (s.r N) nb true (D : Int) (.inr ⟨by omega, by omega⟩) W
  obtain ⟨xs, hxs⟩ : ∃ xs, putS (s.cv (sum3 (s.r N) nb true).c (sum3 (s.r N) nb true).v) (sum3 (s.r N) nb true).w (D : Int) = xs := ⟨_, rfl⟩
  rw [hxs] at hA
  have HXS := Lib.hid hxs; have HA := Lib.hid hA
  clear hA hxs
  have hlg := HR5.out.lg; have hlx := HR5.out.lx
  have HL0 := Lib.hid (show K13e w.heap.size s w5 (w5.cell? ⟨g, 1, none⟩ = some (.int .i64 D)) from ⟨HR5.out.b0.cell 0, HR5.out.b0.cell 1, HR5.out.b0.cell 2, HR5.out.b0.cell 3, HR5.out.b0.cell 4, HR5.out.b0.cell 5, HR5.out.b0.cell 6, HR5.out.b0.cell 7, HR5.out.b0.cell 8, HR5.out.b0.cell 9, HR5.out.b0.cell 10, HR5.out.b0.cell 11, HR5.out.b0.cell 12, HR5.out.bi.cell 1⟩)
  have HL0d := Lib.hid (show K13e w.heap.size s (w5.drew) (w5.drew.cell? ⟨g, 1, none⟩ = some (.int .i64 D)) from ⟨HR5.out.b0.cell 0, HR5.out.b0.cell 1, HR5.out.b0.cell 2, HR5.out.b0.cell 3, HR5.out.b0.cell 4, HR5.out.b0.cell 5, HR5.out.b0.cell 6, HR5.out.b0.cell 7, HR5.out.b0.cell 8, HR5.out.b0.cell 9, HR5.out.b0.cell 10, HR5.out.b0.cell 11, HR5.out.b0.cell 12, HR5.out.bi.cell 1⟩)
  go_wp2_with fail
  go_region_held3 (fun w' => K13e w.heap.size s w' (w'.cell? ⟨g, 1, none⟩ = some (.int .i64 D))) (first | with_reducible exact HL0.out | with_reducible exact HL0d.out | with_reducible exact HL1.out | with_reducible exact HL3.out) (first | (go_at_call 45; refine (HA.out _).mono ?_; rintro e w6 ⟨rfl, hb⟩; have HR6 := Lib.hid (HR5.out.drew.below hb); have HB6 := Lib.hid (HB5.out.drew.trans (hb.mono HB5.out.drew.size)); have HL1 := Lib.hid (show K13e w.heap.size s w6 (w6.cell? ⟨g, 1, none⟩ = some (.int .i64 D)) from ⟨HR6.out.b0.cell 0, HR6.out.b0.cell 1, HR6.out.b0.cell 2, HR6.out.b0.cell 3, HR6.out.b0.cell 4, HR6.out.b0.cell 5, HR6.out.b0.cell 6, HR6.out.b0.cell 7, HR6.out.b0.cell 8, HR6.out.b0.cell 9, HR6.out.b0.cell 10, HR6.out.b0.cell 11, HR6.out.b0.cell 12, HR6.out.bi.cell 1⟩); obtain ⟨z0, z1, z2, z3, z4, z5, z6, z7, z8, z9, z10, z11, z12⟩ := Blk.cells13 HR6.out.bx; obtain ⟨f0, f1, f2, f3, f4, f5, f6, f7, f8, f9, f10, f11, f12⟩ := Blk.frozen13 HR6.out.bx; have HB9 := Lib.hid (blk13 HR6.out.bx xs); have HR9 := Lib.hid (HR6.out.next xs HB9.out.1 HB9.out.2); have HL3 := Lib.hid (show K13e w.heap.size s ((put13 w6 g2 xs)) ((put13 w6 g2 xs).cell? ⟨g, 1, none⟩ = some (.int .i64 D)) from ⟨HR9.out.b0.cell 0, HR9.out.b0.cell 1, HR9.out.b0.cell 2, HR9.out.b0.cell 3, HR9.out.b0.cell 4, HR9.out.b0.cell 5, HR9.out.b0.cell 6, HR9.out.b0.cell 7, HR9.out.b0.cell 8, HR9.out.b0.cell 9, HR9.out.b0.cell 10, HR9.out.b0.cell 11, HR9.out.b0.cell 12, HR9.out.bi.cell 1⟩); clear hb) | (go_at_call 46; refine (HN.out _).mono ?_; rintro e w9 ⟨rfl, rfl⟩))
  have hU := HB9.out.2
  have HR7 := Lib.hid HR9.out
  have HU7 := Lib.hid (Upd.of_below (upd_low HB6.out hU (by omega)) h.X)
  have HP7 := Lib.hid (PM.below HP.out (upd_low HB6.out hU (by omega)))
  clear HL0 HL0d HL1 HL3 z0 z1 z2 z3 z4 z5 z6 z7 z8 z9 z10 z11 z12 f0 f1 f2 f3 f4 f5 f6 f7 f8 f9 f10 f11 f12 i0 i1 i4 n0 n1 n2 n3 n4 n5 n6 n7 n8 n9 n10 n11 n12 HR5 HB5 HB9 HR9 HR6 HB6 hU hlg hlx HA HN
  obtain ⟨w7, hw7⟩ : ∃ w7, put13 w6 g2 xs = w7 := ⟨_, rfl⟩
  rw [hw7] at HR7 HU7 HP7
  simp only [put13] at hw7
  rw [hw7]
  clear hw7
  go_upto_region 50 with fail
  have n8 := HR7.out.bx.cell 8
  have f8 := HR7.out.bx.frozen 8
  have n8' : w7.cell? ⟨g2, 8, none⟩ = some (u xs.pc) := n8
  go_upto_region 53 with fail
  clear n8 n8' f8
  have hlg := HR7.out.lg; have hlx := HR7.out.lx
  have hU := upd_set w7 g2 8 (u p2) (Upd.refl _ w7)
  have HR8 := Lib.hid (HR7.out.next (xs.to p2) (blk_one HR7.out.bx 8 (u p2) rfl) hU)
  have HU8 := Lib.hid (upd_b HU7.out hU (by omega))
  have HP8 := Lib.hid (PM.upd HP7.out hU (fun k hk e => by have := HBB.out k hk; omega))
  obtain ⟨s8, hs8⟩ : ∃ s8, xs.to p2 = s8 := ⟨_, rfl⟩
  rw [hs8] at HR8
  have HS8 := Lib.hid hs8
  clear hs8 hU HR7 HU7 HP7 hlg hlx
  generalize w7.setCell ⟨g2, 8, none⟩ (u p2) = w9 at *
  obtain ⟨n0, n1, n2, n3, n4, n5, n6, n7, n8, n9, n10, n11, n12⟩ := Blk.cells13 HR8.out.bx
  obtain ⟨z0, z1, z2, z3, z4, z5, z6, z7, z8, z9, z10, z11, z12⟩ := Blk.cells13 HR8.out.b1
  obtain ⟨f0, f1, f2, f3, f4, f5, f6, f7, f8, f9, f10, f11, f12⟩ := Blk.frozen13 HR8.out.b1
  go_wp2_with fail
  clear n0 n1 n2 n3 n4 n5 n6 n7 n8 n9 n10 n11 n12 z0 z1 z2 z3 z4 z5 z6 z7 z8 z9 z10 z11 z12 f0 f1 f2 f3 f4 f5 f6 f7 f8 f9 f10 f11 f12
  obtain ⟨hB, hU⟩ := blk13 HR8.out.b1 s8
  have HL := Lib.hid (upd_b HU8.out hU (by omega))
  have HPL := Lib.hid (PM.upd (HP8.out) hU (fun k hk e => by have := HBB.out k hk; omega))
  obtain ⟨w8, hw8⟩ : ∃ w8, put13 w9 (w.heap.size + 1) s8 = w8 := ⟨_, rfl⟩
  rw [hw8] at hB HL HPL
  simp only [put13] at hw8
  rw [hw8]
  clear hw8 hU
  obtain ⟨n0, n1, n2, n3, n4, n5, n6, n7, n8, n9, n10, n11, n12⟩ := Blk.cells13 hB
  exact bodyPost_ret (v := .tuple #[sv s8, .bool false, .int .i64 0]) (by simp [results, Tryd.results31, go_sem, n0, n1, n2, n3, n4, n5, n6, n7, n8, n9, n10, n11, n12]) rfl ⟨by rw [← HS8.out, ← HXS.out, ← HNB.out, ← HP2.out, ← HIM.out]; rfl, HPL.out, HL.out⟩
theorem doS11 (s : S) (D N M K : Nat) (hK : K < 16) (m : St) : (outS s (alu3 K (s.r D) (s.r M) s.c s.v) (if K = 8 ∨ K = 10 ∨ K = 11 then -1 else (D : Int))).to (s.pc + 2#32) = (doS 11 D N M (K : Int) s m).1 := by
  have e : (BitVec.ofInt 32 (K : Int)).toNat = K := by have := ofInt_small (K : Int) (by omega) (by omega); omega
  have e1 : doS 11 D N M (K : Int) s m = (doCS 11 D N M (BitVec.ofInt 32 (K : Int)) s, 0, m) := by unfold doS; rw [if_pos (by decide)]
  have e2 : nextV 11 D (BitVec.ofInt 32 ((BitVec.ofInt 32 (K : Int)).toNat : Int)) s = s.pc + 2#32 := by unfold nextV; rw [if_neg (by simp)]
  have e3 : cmp3 11 D N M (BitVec.ofInt 32 (K : Int)) s = alu3 K (s.r D) (s.r M) s.c s.v := by
    have : cmp3 11 D N M (BitVec.ofInt 32 (K : Int)) s = alu3 (BitVec.ofInt 32 (K : Int)).toNat (s.r D) (s.r M) s.c s.v := rfl
    rw [this, e]
  rw [e1]
  unfold doCS
  rw [e2, e3, e]
  generalize alu3 K (s.r D) (s.r M) s.c s.v = x
  by_cases hk : K = 8 ∨ K = 10 ∨ K = 11
  · rw [if_pos hk, if_neg (by rcases hk with rfl | rfl | rfl <;> decide)]
    rfl
  · rw [if_neg hk, if_pos (by simp [ThRef.setsB]; omega)]
    unfold outS putS
    rw [if_neg (by omega), Int.toNat_natCast]
    rfl
set_option maxRecDepth 100000 in
set_option maxHeartbeats 2000000 in
theorem rst11 (s : S) (n0 : Nat) (h : Hd) (m : St) (w : World) (p : RP n0 h m w) (hf : Nat) (hh : hf < 65536) (hfe : fetchV m (s.pc.toNat : Int) = ((hf : Int), 0)) (D N M : Nat) (i : Int) (hw0 : Wi 11 D N M i) (htf : Tp.takeF 21 0 hf = (11, ⟨D, N, M, i⟩, 0)) : Calls Tryd.prog 31 #[sv s, ptr h.r] w (RpEnd n0 h ((doS 11 D N M i s m).1, false, 0, m) w) := by
  have HTF := Lib.hid htf
  clear htf
  obtain ⟨K, hK⟩ := Int.eq_ofNat_of_zero_le (hw0.i0 (by decide) (by decide)).1
  have hK16 : K < 16 := by have := hw0.i16 rfl; omega
  have hE11 := doS11 s D N M K hK16 m
  rw [← hK] at hE11
  have HE11 := Lib.hid hE11; have HK := Lib.hid hK
  clear hE11 hK
  have hX : ∀ k, h.X k → k < w.heap.size := fun k hk => (p.lt (Hd.XB hk)).2
  have hBB : ∀ k, h.B k → k < w.heap.size := fun k hk => (p.lt hk).2
  have hF := fun W p => MmR.fetch n0 h m W (s.pc.toNat : Int) (by omega) (bd s.pc) p
  rw [hfe] at hF
  have HX := Lib.hid hX; have HBB := Lib.hid hBB; have HP := Lib.hid p; have HF := Lib.hid hF
  clear hX hBB p hF hfe
  go_enter Tryd.func31, Tryd.ntmps31
  go_wp2_with fail
  obtain ⟨hsx, hbel⟩ := sx_new w s
  refine (HF.out _ (PM.below HP.out hbel)).mono ?_
  rintro e w1 ⟨rfl, nq, rfl⟩
  have HS := Lib.hid (hsx.drewN nq)
  have HB := Lib.hid (below_drewN hbel nq)
  obtain ⟨w1, hw1⟩ : ∃ w1, w1 = ((w.alloc (.cells (sC s) 51)).alloc (.cells (sC zS) 51)).drewN nq := ⟨_, rfl⟩
  rw [← hw1] at HS HB ⊢
  clear hw1 hsx hbel HF
  obtain ⟨n0, n1, n2, n3, n4, n5, n6, n7, n8, n9, n10, n11, n12⟩ := Blk.cells13 HS.out.b0
  obtain ⟨z0, z1, z2, z3, z4, z5, z6, z7, z8, z9, z10, z11, z12⟩ := Blk.cells13 HS.out.b1
  obtain ⟨f0, f1, f2, f3, f4, f5, f6, f7, f8, f9, f10, f11, f12⟩ := Blk.frozen13 HS.out.b1
  go_wp2_with fail
  refine (Tp.takeR hf hh _).mono ?_
  rintro e w2 ⟨rfl, hb⟩
  rw [HTF.out, show Tp.resV (11, ⟨D, N, M, i⟩, 0) = .tuple #[.agg #[.int .i64 11, .int .i64 D, .int .i64 N, .int .i64 M, .int .i64 i], .int .i64 (0 : Nat)] from rfl]
  have HS2 := Lib.hid (HS.out.below hb)
  have HB2 := Lib.hid (HB.out.trans (hb.mono HB.out.size))
  clear n0 n1 n2 n3 n4 n5 n6 n7 n8 n9 n10 n11 n12 z0 z1 z2 z3 z4 z5 z6 z7 z8 z9 z10 z11 z12 f0 f1 f2 f3 f4 f5 f6 f7 f8 f9 f10 f11 f12 hb HS HB
  go_upto_region 7 with fail
  have hx : Below w2.heap.size w2 (w2.alloc (.cells #[.int .i64 11, .int .i64 D, .int .i64 N, .int .i64 M, .int .i64 i] 58)) := (Below.refl _ _).alloc (Nat.le_refl _) _
  have HS3 := Lib.hid (HS2.out.below hx)
  have HB3 := Lib.hid (HB2.out.trans (hx.mono HB2.out.size))
  have HI3 := Lib.hid (Blk.new w2 58 #[.int .i64 11, .int .i64 D, .int .i64 N, .int .i64 M, .int .i64 i])
  have HG := Lib.hid (HS2.out.b1.lt)
  have HG3 := Lib.hid (HI3.out.lt)
  obtain ⟨w3, hw3⟩ : ∃ w3, w2.alloc (.cells #[.int .i64 11, .int .i64 D, .int .i64 N, .int .i64 M, .int .i64 i] 58) = w3 := ⟨_, rfl⟩
  rw [hw3] at HS3 HB3 HI3 HG3 ⊢
  generalize w2.heap.size = g at *
  clear hw3 hx HS2 HB2
  obtain ⟨n0, n1, n2, n3, n4, n5, n6, n7, n8, n9, n10, n11, n12⟩ := Blk.cells13 HS3.out.b0
  have i4 : w3.cell? ⟨g, 4, none⟩ = some (.int .i64 i) := HI3.out.cell 4
  have hbx := Blk.new w3 51 (sC s)
  have hxx : Below w3.heap.size w3 (w3.alloc (.cells (sC s) 51)) := (Below.refl _ _).alloc (Nat.le_refl _) _
  have hx0 : Below w3.heap.size w3 (w3.alloc (.cells (sC zS) 51)) := (Below.refl _ _).alloc (Nat.le_refl _) _
  have hSA := Sx.below HS3.out hx0
  have hIA := Blk.below HI3.out hx0 HG3.out
  have hS2 := Sx.below HS3.out hxx
  have hI2 := Blk.below HI3.out hxx HG3.out
  have hgl : w.heap.size + 1 < g := HG.out
  have hgl3 : g < w3.heap.size := HG3.out
  have HR := Lib.hid (show Rx w g w3.heap.size 11 D N M i s s (w3.alloc (.cells (sC s) 51)).drew from ⟨hS2.b0, hS2.b1, hI2, hbx, hgl, hgl3⟩)
  have HBW := Lib.hid (show Below w.heap.size w (w3.alloc (.cells (sC s) 51)).drew from (HB3.out.trans (hxx.mono HB3.out.size)).drew)
  have HL0 := Lib.hid (show K13e w.heap.size s w3 (w3.cell? ⟨g, 4, none⟩ = some (.int .i64 i)) from ⟨n0, n1, n2, n3, n4, n5, n6, n7, n8, n9, n10, n11, n12, i4⟩)
  have HL0d := Lib.hid (show K13e w.heap.size s (w3.drew) (w3.drew.cell? ⟨g, 4, none⟩ = some (.int .i64 i)) from ⟨n0, n1, n2, n3, n4, n5, n6, n7, n8, n9, n10, n11, n12, i4⟩)
  have HL1 := Lib.hid (show K13e w.heap.size s ((w3.alloc (.cells #[Value.int .u32 0, Value.int .u32 0, Value.int .u32 0, Value.int .u32 0, Value.int .u32 0, Value.int .u32 0, Value.int .u32 0, Value.int .u32 0, Value.int .u32 0, .bool false, .bool false, .bool false, .bool false] 51)).drew) ((w3.alloc (.cells #[Value.int .u32 0, Value.int .u32 0, Value.int .u32 0, Value.int .u32 0, Value.int .u32 0, Value.int .u32 0, Value.int .u32 0, Value.int .u32 0, Value.int .u32 0, .bool false, .bool false, .bool false, .bool false] 51)).drew.cell? ⟨g, 4, none⟩ = some (.int .i64 i)) from ⟨hSA.b0.cell 0, hSA.b0.cell 1, hSA.b0.cell 2, hSA.b0.cell 3, hSA.b0.cell 4, hSA.b0.cell 5, hSA.b0.cell 6, hSA.b0.cell 7, hSA.b0.cell 8, hSA.b0.cell 9, hSA.b0.cell 10, hSA.b0.cell 11, hSA.b0.cell 12, hIA.cell 4⟩)
  have HL3 := Lib.hid (show K13e w.heap.size s ((w3.alloc (.cells (sC s) 51)).drew) ((w3.alloc (.cells (sC s) 51)).drew.cell? ⟨g, 4, none⟩ = some (.int .i64 i)) from ⟨HR.out.b0.cell 0, HR.out.b0.cell 1, HR.out.b0.cell 2, HR.out.b0.cell 3, HR.out.b0.cell 4, HR.out.b0.cell 5, HR.out.b0.cell 6, HR.out.b0.cell 7, HR.out.b0.cell 8, HR.out.b0.cell 9, HR.out.b0.cell 10, HR.out.b0.cell 11, HR.out.b0.cell 12, HR.out.bi.cell 4⟩)
  clear hbx hxx hx0 hSA hIA hgl hgl3 hS2 hI2
  obtain ⟨imm, himm⟩ : ∃ imm, BitVec.ofInt 32 i = imm := ⟨_, rfl⟩
  obtain ⟨p2, hp2⟩ : ∃ p2, s.pc + 2#32 = p2 := ⟨_, rfl⟩
  have hw := wrap_ofInt i
  have hnp2 : IntKind.u32.wrap ((s.pc.toNat : Int) + 2) = ((s.pc + 2#32).toNat : Int) := by rw [IntKind.wrap_u32]; exact next_pc s.pc
  rw [himm] at hw
  rw [hp2] at hnp2
  have HIM := Lib.hid himm; have HP2 := Lib.hid hp2
  clear himm hp2
  go_region_held3 (fun w' => K13e w.heap.size s w' (w'.cell? ⟨g, 4, none⟩ = some (.int .i64 i))) (first | with_reducible exact HL0.out | with_reducible exact HL0d.out | with_reducible exact HL1.out | with_reducible exact HL3.out) (fail)
  clear HL0 HL0d HL1 HL3 n0 n1 n2 n3 n4 n5 n6 n7 n8 n9 n10 n11 n12 i4 HS3 HI3 HB3 HG HG3
  obtain ⟨w4, hw4⟩ : ∃ w4, (w3.alloc (.cells (sC s) 51)).drew = w4 := ⟨_, rfl⟩
  rw [hw4] at HR HBW
  simp only [sC] at hw4
  rw [hw4]
  clear hw4
  generalize w3.heap.size = g2 at *
  have i0 : w4.cell? ⟨g, 0, none⟩ = some (.int .i64 11) := HR.out.bi.cell 0
  have i1 : w4.cell? ⟨g, 1, none⟩ = some (.int .i64 D) := HR.out.bi.cell 1
  have i2 : w4.cell? ⟨g, 2, none⟩ = some (.int .i64 N) := HR.out.bi.cell 2
  have i3 : w4.cell? ⟨g, 3, none⟩ = some (.int .i64 M) := HR.out.bi.cell 3
  have rN := HR.out.b0.reg N hw0.n8
  have rM := HR.out.b0.reg M hw0.m8
  have hN2 : (N : Int) < 8 := by have := hw0.n8; omega
  have hM2 : (M : Int) < 8 := by have := hw0.m8; omega
  have hD8 : D < 8 := hw0.d8 (by decide)
  have rD := HR.out.b0.reg D hD8
  have hD2 : (D : Int) < 8 := by omega
  have hdm : (D : Int).tmod 8 = (D : Int) := by rw [tmod8, Nat.mod_eq_of_lt hD8]
  have hdm2 : (D : Int) % 8 = (D : Int) := by omega
  have HDM := Lib.hid hdm2
  go_wp2_with fail
  go_quiet (fail)
  have HR5 := Lib.hid (HR.out.drewN nq)
  have HB5 := Lib.hid (below_drewN HBW.out nq)
  generalize w4.drewN nq = w5 at *
  clear i0 i1 i2 i3 rN rM rD HR HBW
  have i0 : w5.cell? ⟨g, 0, none⟩ = some (.int .i64 11) := HR5.out.bi.cell 0
  have i1 : w5.cell? ⟨g, 1, none⟩ = some (.int .i64 D) := HR5.out.bi.cell 1
  have i4 : w5.cell? ⟨g, 4, none⟩ = some (.int .i64 i) := HR5.out.bi.cell 4
  obtain ⟨n0, n1, n2, n3, n4, n5, n6, n7, n8, n9, n10, n11, n12⟩ := Blk.cells13 HR5.out.b0
  have hA := fun W => (show Calls Tryd.prog 48 #[sv s, .int .i64 i, .int .i64 (D : Int), u (s.r D), u (s.r M)] W fun e w' => e = .returned (sv (outS s (alu3 K (s.r D) (s.r M) s.c s.v) (if K = 8 ∨ K = 10 ∨ K = 11 then -1 else (D : Int)))) ∧ Below W.heap.size W w' from by rw [HK.out]; exact ralu K hK16 s (D : Int) (.inr ⟨by omega, by omega⟩) (s.r D) (s.r M) W)
  obtain ⟨xs, hxs⟩ : ∃ xs, outS s (alu3 K (s.r D) (s.r M) s.c s.v) (if K = 8 ∨ K = 10 ∨ K = 11 then -1 else (D : Int)) = xs := ⟨_, rfl⟩
  rw [hxs] at hA
  have HXS := Lib.hid hxs; have HA := Lib.hid hA
  clear hA hxs
  go_wp2_with fail
  refine (HA.out _).mono ?_
  rintro e w6 ⟨rfl, hb⟩
  have HR6 := Lib.hid (HR5.out.below hb)
  have HB6 := Lib.hid (HB5.out.trans (hb.mono HB5.out.size))
  clear hb i0 i1 i4 n0 n1 n2 n3 n4 n5 n6 n7 n8 n9 n10 n11 n12 HR5 HB5
  obtain ⟨z0, z1, z2, z3, z4, z5, z6, z7, z8, z9, z10, z11, z12⟩ := Blk.cells13 HR6.out.bx
  obtain ⟨f0, f1, f2, f3, f4, f5, f6, f7, f8, f9, f10, f11, f12⟩ := Blk.frozen13 HR6.out.bx
  go_upto_region 50 with fail
  clear z0 z1 z2 z3 z4 z5 z6 z7 z8 z9 z10 z11 z12 f0 f1 f2 f3 f4 f5 f6 f7 f8 f9 f10 f11 f12
  obtain ⟨hB, hU⟩ := blk13 HR6.out.bx xs
  have hlg := HR6.out.lg; have hlx := HR6.out.lx
  have HR7 := Lib.hid (HR6.out.next xs hB hU)
  have HU7 := Lib.hid (Upd.of_below (upd_low HB6.out hU (by omega)) h.X)
  have HP7 := Lib.hid (PM.below HP.out (upd_low HB6.out hU (by omega)))
  obtain ⟨w7, hw7⟩ : ∃ w7, put13 w6 g2 xs = w7 := ⟨_, rfl⟩
  rw [hw7] at HR7 HU7 HP7
  simp only [put13] at hw7
  rw [hw7]
  clear hw7 hB hU HR6 HB6 hlg hlx
  have n8 := HR7.out.bx.cell 8
  have f8 := HR7.out.bx.frozen 8
  have n8' : w7.cell? ⟨g2, 8, none⟩ = some (u xs.pc) := n8
  go_upto_region 53 with fail
  clear n8 n8' f8
  have hlg := HR7.out.lg; have hlx := HR7.out.lx
  have hU := upd_set w7 g2 8 (u p2) (Upd.refl _ w7)
  have HR8 := Lib.hid (HR7.out.next (xs.to p2) (blk_one HR7.out.bx 8 (u p2) rfl) hU)
  have HU8 := Lib.hid (upd_b HU7.out hU (by omega))
  have HP8 := Lib.hid (PM.upd HP7.out hU (fun k hk e => by have := HBB.out k hk; omega))
  obtain ⟨s8, hs8⟩ : ∃ s8, xs.to p2 = s8 := ⟨_, rfl⟩
  rw [hs8] at HR8
  have HS8 := Lib.hid hs8
  clear hs8 hU HR7 HU7 HP7 hlg hlx
  generalize w7.setCell ⟨g2, 8, none⟩ (u p2) = w9 at *
  obtain ⟨n0, n1, n2, n3, n4, n5, n6, n7, n8, n9, n10, n11, n12⟩ := Blk.cells13 HR8.out.bx
  obtain ⟨z0, z1, z2, z3, z4, z5, z6, z7, z8, z9, z10, z11, z12⟩ := Blk.cells13 HR8.out.b1
  obtain ⟨f0, f1, f2, f3, f4, f5, f6, f7, f8, f9, f10, f11, f12⟩ := Blk.frozen13 HR8.out.b1
  go_wp2_with fail
  clear n0 n1 n2 n3 n4 n5 n6 n7 n8 n9 n10 n11 n12 z0 z1 z2 z3 z4 z5 z6 z7 z8 z9 z10 z11 z12 f0 f1 f2 f3 f4 f5 f6 f7 f8 f9 f10 f11 f12
  obtain ⟨hB, hU⟩ := blk13 HR8.out.b1 s8
  have HL := Lib.hid (upd_b HU8.out hU (by omega))
  have HPL := Lib.hid (PM.upd (HP8.out) hU (fun k hk e => by have := HBB.out k hk; omega))
  obtain ⟨w8, hw8⟩ : ∃ w8, put13 w9 (w.heap.size + 1) s8 = w8 := ⟨_, rfl⟩
  rw [hw8] at hB HL HPL
  simp only [put13] at hw8
  rw [hw8]
  clear hw8 hU
  obtain ⟨n0, n1, n2, n3, n4, n5, n6, n7, n8, n9, n10, n11, n12⟩ := Blk.cells13 hB
  exact bodyPost_ret (v := .tuple #[sv s8, .bool false, .int .i64 0]) (by simp [results, Tryd.results31, go_sem, n0, n1, n2, n3, n4, n5, n6, n7, n8, n9, n10, n11, n12]) rfl ⟨by rw [← HS8.out, ← HXS.out, ← HP2.out, HE11.out], HPL.out, HL.out⟩
end Go.Proofs.YtkafmpdjpjgkgaaDoor.Co
