/- DERIVED. CoRu in one text. By an AI agent. -/
import Derived.Test.YtkafmpdjpjgkgaaDoorZ33
import Derived.Test.YtkafmpdjpjgkgaaDoorZ31
/- DERIVED. Of the reference's Step: by what it does. By an AI agent. -/
namespace Go.Proofs.YtkafmpdjpjgkgaaDoor.Co
open Go.ChangeShapes Go.WideShapes Go.ChangeAt Go.RowKit WMath Word Ref Args Mm MmR
set_option linter.unusedVariables false
set_option linter.unusedSimpArgs false
set_option maxRecDepth 100000 in
set_option maxHeartbeats 2000000 in
theorem rst12 (s : S) (n0 : Nat) (h : Hd) (m : St) (w : World) (p : RP n0 h m w) (hf : Nat) (hh : hf < 65536) (hfe : fetchV m (s.pc.toNat : Int) = ((hf : Int), 0)) (D N M : Nat) (i : Int) (hw0 : Wi 12 D N M i) (htf : Tp.takeF 21 0 hf = (12, ⟨D, N, M, i⟩, 0)) : Calls Tryd.prog 31 #[sv s, ptr h.r] w (RpEnd n0 h (if (doS 12 D N M i s m).2.1 = 0 then ((doS 12 D N M i s m).1, false, 0, (doS 12 D N M i s m).2.2) else (s, false, (doS 12 D N M i s m).2.1, (doS 12 D N M i s m).2.2)) w) := by
  have HTF := Lib.hid htf
  clear htf
  have hir := hw0.n8
  obtain ⟨ad, had⟩ : ∃ ad, addrV 12 N M (BitVec.ofInt 32 i) s = ad := ⟨_, rfl⟩
  have g2' : IntKind.u32.wrap (4 * ((BitVec.ofInt 32 i).toNat : Int)) = ((4#32 * BitVec.ofInt 32 i).toNat : Int) := by rw [IntKind.wrap_u32]; exact four_w _
  have g3' : IntKind.u32.wrap (((s.r N).toNat : Int) + ((4#32 * BitVec.ofInt 32 i).toNat : Int)) = (ad.toNat : Int) := by rw [IntKind.wrap_u32, ← had]; exact add_w _ _
  have HAD := Lib.hid had
  have HG2 := Lib.hid g2'; have HG3' := Lib.hid g3'
  clear had g2' g3' hir
  have hl := fun W p => MmR.load n0 h m W (ad.toNat : Int) (by omega) (bd ad) p
  have hbd := p.fit.look (ad.toNat : Int)
  obtain ⟨y, hy⟩ : ∃ y, BitVec.ofInt 32 (lookV m (ad.toNat : Int)).1 = y := ⟨_, rfl⟩
  obtain ⟨er, her⟩ : ∃ er, (lookV m (ad.toNat : Int)).2 = er := ⟨_, rfl⟩
  have hy2 := word_in _ hbd.1 hbd.2
  rw [hy] at hy2
  have hl2 : ∀ W, RP n0 h m W → Calls Tryd.prog 49 #[ptr h.r, u ad] W fun e w' => e = .returned (.tuple #[u y, .int .i64 er]) ∧ RP n0 h (loadS m (ad.toNat : Int)) w' ∧ Upd h.X W w' := fun W p => (hl W p).mono fun e w' ⟨h1, h2⟩ => ⟨by rw [h1, hy2, her], h2⟩
  have hdo : doS 12 D N M i s m = ((s.to (s.pc + 2#32)).up D y, er, loadS m (ad.toNat : Int)) := by rw [← hy, ← her, ← HAD.out]; rfl
  have hok : er = 0 → ∀ e w', RpEnd n0 h ((s.to (s.pc + 2#32)).up D y, false, 0, loadS m (ad.toNat : Int)) w e w' → RpEnd n0 h (if (doS 12 D N M i s m).2.1 = 0 then ((doS 12 D N M i s m).1, false, 0, (doS 12 D N M i s m).2.2) else (s, false, (doS 12 D N M i s m).2.1, (doS 12 D N M i s m).2.2)) w e w' := fun he e w' hh => by
    rw [hdo]; show RpEnd n0 h (if er = 0 then _ else _) w e w'; rw [if_pos he]; exact hh
  have hno : er ≠ 0 → ∀ e w', RpEnd n0 h (s, false, er, loadS m (ad.toNat : Int)) w e w' → RpEnd n0 h (if (doS 12 D N M i s m).2.1 = 0 then ((doS 12 D N M i s m).1, false, 0, (doS 12 D N M i s m).2.2) else (s, false, (doS 12 D N M i s m).2.1, (doS 12 D N M i s m).2.2)) w e w' := fun he e w' hh => by
    rw [hdo]; show RpEnd n0 h (if er = 0 then _ else _) w e w'; rw [if_neg he]; exact hh
  obtain ⟨rr, hrr⟩ : ∃ rr, (if (doS 12 D N M i s m).2.1 = 0 then ((doS 12 D N M i s m).1, false, 0, (doS 12 D N M i s m).2.2) else (s, false, (doS 12 D N M i s m).2.1, (doS 12 D N M i s m).2.2)) = rr := ⟨_, rfl⟩
  rw [hrr] at hok hno ⊢
  have HOK := Lib.hid hok; have HNO := Lib.hid hno
  clear hdo hok hno hrr
  have HLD := Lib.hid hl2
  clear hl hl2 hbd hy her hy2
  have hX : ∀ k, h.X k → k < w.heap.size := fun k hk => (p.lt (Hd.XB hk)).2
  have hBB : ∀ k, h.B k → k < w.heap.size := fun k hk => (p.lt hk).2
  have hF := fun W p => MmR.fetch n0 h m W (s.pc.toNat : Int) (by omega) (bd s.pc) p
  rw [hfe] at hF
  have HX := Lib.hid hX; have HBB := Lib.hid hBB; have HP := Lib.hid p; have HF := Lib.hid hF
  clear hX hBB p hF hfe
  go_enter Tryd.func31, Tryd.ntmps31
  go_wp2_with fail
  obtain ⟨hsx, hbel⟩ := sx_new w s
  refine (HF.out _ (PM.below HP.out hbel)).mono ?_
  rintro e w1 ⟨rfl, nq, rfl⟩
  have HS := Lib.hid (hsx.drewN nq)
  have HB := Lib.hid (below_drewN hbel nq)
  obtain ⟨w1, hw1⟩ : ∃ w1, w1 = ((w.alloc (.cells (sC s) 51)).alloc (.cells (sC zS) 51)).drewN nq := ⟨_, rfl⟩
  rw [← hw1] at HS HB ⊢
  clear hw1 hsx hbel HF
  obtain ⟨n0, n1, n2, n3, n4, n5, n6, n7, n8, n9, n10, n11, n12⟩ := Blk.cells13 HS.out.b0
  obtain ⟨z0, z1, z2, z3, z4, z5, z6, z7, z8, z9, z10, z11, z12⟩ := Blk.cells13 HS.out.b1
  obtain ⟨f0, f1, f2, f3, f4, f5, f6, f7, f8, f9, f10, f11, f12⟩ := Blk.frozen13 HS.out.b1
  go_wp2_with fail
  refine (Tp.takeR hf hh _).mono ?_
  rintro e w2 ⟨rfl, hb⟩
  rw [HTF.out, show Tp.resV (12, ⟨D, N, M, i⟩, 0) = .tuple #[.agg #[.int .i64 12, .int .i64 D, .int .i64 N, .int .i64 M, .int .i64 i], .int .i64 (0 : Nat)] from rfl]
  have HS2 := Lib.hid (HS.out.below hb)
  have HB2 := Lib.hid (HB.out.trans (hb.mono HB.out.size))
  clear n0 n1 n2 n3 n4 n5 n6 n7 n8 n9 n10 n11 n12 z0 z1 z2 z3 z4 z5 z6 z7 z8 z9 z10 z11 z12 f0 f1 f2 f3 f4 f5 f6 f7 f8 f9 f10 f11 f12 hb HS HB
  go_upto_region 7 with fail
  have hx : Below w2.heap.size w2 (w2.alloc (.cells #[.int .i64 12, .int .i64 D, .int .i64 N, .int .i64 M, .int .i64 i] 58)) := (Below.refl _ _).alloc (Nat.le_refl _) _
  have HS3 := Lib.hid (HS2.out.below hx)
  have HB3 := Lib.hid (HB2.out.trans (hx.mono HB2.out.size))
  have HI3 := Lib.hid (Blk.new w2 58 #[.int .i64 12, .int .i64 D, .int .i64 N, .int .i64 M, .int .i64 i])
  have HG := Lib.hid (HS2.out.b1.lt)
  have HG3 := Lib.hid (HI3.out.lt)
  obtain ⟨w3, hw3⟩ : ∃ w3, w2.alloc (.cells #[.int .i64 12, .int .i64 D, .int .i64 N, .int .i64 M, .int .i64 i] 58) = w3 := ⟨_, rfl⟩
  rw [hw3] at HS3 HB3 HI3 HG3 ⊢
  generalize w2.heap.size = g at *
  clear hw3 hx HS2 HB2
  obtain ⟨n0, n1, n2, n3, n4, n5, n6, n7, n8, n9, n10, n11, n12⟩ := Blk.cells13 HS3.out.b0
  have i4 : w3.cell? ⟨g, 4, none⟩ = some (.int .i64 i) := HI3.out.cell 4
  have hbx := Blk.new w3 51 (sC s)
  have hxx : Below w3.heap.size w3 (w3.alloc (.cells (sC s) 51)) := (Below.refl _ _).alloc (Nat.le_refl _) _
  have hx0 : Below w3.heap.size w3 (w3.alloc (.cells (sC zS) 51)) := (Below.refl _ _).alloc (Nat.le_refl _) _
  have hSA := Sx.below HS3.out hx0
  have hIA := Blk.below HI3.out hx0 HG3.out
  have hS2 := Sx.below HS3.out hxx
  have hI2 := Blk.below HI3.out hxx HG3.out
  have hgl : w.heap.size + 1 < g := HG.out
  have hgl3 : g < w3.heap.size := HG3.out
  have HR := Lib.hid (show Rx w g w3.heap.size 12 D N M i s s (w3.alloc (.cells (sC s) 51)).drew from ⟨hS2.b0, hS2.b1, hI2, hbx, hgl, hgl3⟩)
  have HBW := Lib.hid (show Below w.heap.size w (w3.alloc (.cells (sC s) 51)).drew from (HB3.out.trans (hxx.mono HB3.out.size)).drew)
  have HL0 := Lib.hid (show K13e w.heap.size s w3 (w3.cell? ⟨g, 4, none⟩ = some (.int .i64 i)) from ⟨n0, n1, n2, n3, n4, n5, n6, n7, n8, n9, n10, n11, n12, i4⟩)
  have HL0d := Lib.hid (show K13e w.heap.size s (w3.drew) (w3.drew.cell? ⟨g, 4, none⟩ = some (.int .i64 i)) from ⟨n0, n1, n2, n3, n4, n5, n6, n7, n8, n9, n10, n11, n12, i4⟩)
  have HL1 := Lib.hid (show K13e w.heap.size s ((w3.alloc (.cells #[Value.int .u32 0, Value.int .u32 0, Value.int .u32 0, Value.int .u32 0, Value.int .u32 0, Value.int .u32 0, Value.int .u32 0, Value.int .u32 0, Value.int .u32 0, .bool false, .bool false, .bool false, .bool false] 51)).drew) ((w3.alloc (.cells #[Value.int .u32 0, Value.int .u32 0, Value.int .u32 0, Value.int .u32 0, Value.int .u32 0, Value.int .u32 0, Value.int .u32 0, Value.int .u32 0, Value.int .u32 0, .bool false, .bool false, .bool false, .bool false] 51)).drew.cell? ⟨g, 4, none⟩ = some (.int .i64 i)) from ⟨hSA.b0.cell 0, hSA.b0.cell 1, hSA.b0.cell 2, hSA.b0.cell 3, hSA.b0.cell 4, hSA.b0.cell 5, hSA.b0.cell 6, hSA.b0.cell 7, hSA.b0.cell 8, hSA.b0.cell 9, hSA.b0.cell 10, hSA.b0.cell 11, hSA.b0.cell 12, hIA.cell 4⟩)
  have HL3 := Lib.hid (show K13e w.heap.size s ((w3.alloc (.cells (sC s) 51)).drew) ((w3.alloc (.cells (sC s) 51)).drew.cell? ⟨g, 4, none⟩ = some (.int .i64 i)) from ⟨HR.out.b0.cell 0, HR.out.b0.cell 1, HR.out.b0.cell 2, HR.out.b0.cell 3, HR.out.b0.cell 4, HR.out.b0.cell 5, HR.out.b0.cell 6, HR.out.b0.cell 7, HR.out.b0.cell 8, HR.out.b0.cell 9, HR.out.b0.cell 10, HR.out.b0.cell 11, HR.out.b0.cell 12, HR.out.bi.cell 4⟩)
  clear hbx hxx hx0 hSA hIA hgl hgl3 hS2 hI2
  obtain ⟨imm, himm⟩ : ∃ imm, BitVec.ofInt 32 i = imm := ⟨_, rfl⟩
  obtain ⟨p2, hp2⟩ : ∃ p2, s.pc + 2#32 = p2 := ⟨_, rfl⟩
  have hw := wrap_ofInt i
  have hnp2 : IntKind.u32.wrap ((s.pc.toNat : Int) + 2) = ((s.pc + 2#32).toNat : Int) := by rw [IntKind.wrap_u32]; exact next_pc s.pc
  rw [himm] at hw
  rw [hp2] at hnp2
  have HIM := Lib.hid himm; have HP2 := Lib.hid hp2
  clear himm hp2
  go_region_held3 (fun w' => K13e w.heap.size s w' (w'.cell? ⟨g, 4, none⟩ = some (.int .i64 i))) (first | with_reducible exact HL0.out | with_reducible exact HL0d.out | with_reducible exact HL1.out | with_reducible exact HL3.out) (fail)
  clear HL0 HL0d HL1 HL3 n0 n1 n2 n3 n4 n5 n6 n7 n8 n9 n10 n11 n12 i4 HS3 HI3 HB3 HG HG3
  obtain ⟨w4, hw4⟩ : ∃ w4, (w3.alloc (.cells (sC s) 51)).drew = w4 := ⟨_, rfl⟩
  rw [hw4] at HR HBW
  simp only [sC] at hw4
  rw [hw4]
  clear hw4
  generalize w3.heap.size = g2 at *
  have i0 : w4.cell? ⟨g, 0, none⟩ = some (.int .i64 12) := HR.out.bi.cell 0
  have i1 : w4.cell? ⟨g, 1, none⟩ = some (.int .i64 D) := HR.out.bi.cell 1
  have i2 : w4.cell? ⟨g, 2, none⟩ = some (.int .i64 N) := HR.out.bi.cell 2
  have i3 : w4.cell? ⟨g, 3, none⟩ = some (.int .i64 M) := HR.out.bi.cell 3
  have rN := HR.out.b0.reg N hw0.n8
  have rM := HR.out.b0.reg M hw0.m8
  have hN2 : (N : Int) < 8 := by have := hw0.n8; omega
  have hM2 : (M : Int) < 8 := by have := hw0.m8; omega
  have hD8 : D < 8 := hw0.d8 (by decide)
  have rD := HR.out.b0.reg D hD8
  have hD2 : (D : Int) < 8 := by omega
  have hdm : (D : Int).tmod 8 = (D : Int) := by rw [tmod8, Nat.mod_eq_of_lt hD8]
  have hdm2 : (D : Int) % 8 = (D : Int) := by omega
  have HDM := Lib.hid hdm2
  go_wp2_with fail
  go_quiet (fail)
  have HR5 := Lib.hid (HR.out.drewN nq)
  have HB5 := Lib.hid (below_drewN HBW.out nq)
  generalize w4.drewN nq = w5 at *
  clear i0 i1 i2 i3 rN rM rD HR HBW
  have i0 : w5.cell? ⟨g, 0, none⟩ = some (.int .i64 12) := HR5.out.bi.cell 0
  have i1 : w5.cell? ⟨g, 1, none⟩ = some (.int .i64 D) := HR5.out.bi.cell 1
  have i4 : w5.cell? ⟨g, 4, none⟩ = some (.int .i64 i) := HR5.out.bi.cell 4
  obtain ⟨n0, n1, n2, n3, n4, n5, n6, n7, n8, n9, n10, n11, n12⟩ := Blk.cells13 HR5.out.b0
  have g2' := HG2.out; have g3' := HG3'.out
  rw [HIM.out] at g2' g3'
  generalize 4#32 * imm = i4' at g2' g3'
  have hlg := HR5.out.lg; have hlx := HR5.out.lx
  have HL0 := Lib.hid (show w5.cell? ⟨g, 1, none⟩ = some (.int .i64 D) from HR5.out.bi.cell 1)
  have HL0d := Lib.hid (show w5.drew.cell? ⟨g, 1, none⟩ = some (.int .i64 D) from HR5.out.bi.cell 1)
  have hD0 : (0 : Int) ≤ (D : Int) := by omega
  have ub := bd (s.r N); have ub2 := bd (s.r M); have ub3 := bd imm; have ub4 := bd s.pc
  go_wp2_with fail
  go_region_held3 (fun w' => w'.cell? ⟨g, 1, none⟩ = some (.int .i64 D)) (first | with_reducible exact HL0.out | with_reducible exact HL0d.out | with_reducible exact HL1.out | with_reducible exact HL3.out) ((go_at_call 49; refine (HLD.out _ (PM.drew (PM.below HP.out HB5.out))).mono ?_; rintro e w6 ⟨rfl, hp6, hu6⟩; have HP6 := Lib.hid hp6; have HR6 := Lib.hid (HR5.out.drew.upd hu6 HX.out); have HU6 := Lib.hid ((Upd.of_below HB5.out.drew h.X).trans hu6); have HL1 := Lib.hid (show w6.cell? ⟨g, 1, none⟩ = some (.int .i64 D) from HR6.out.bi.cell 1); have nD := HR6.out.bx.reg D hD8; have fD := HR6.out.bx.frozen D; have HB9 := Lib.hid (HR6.out.bx.up D hD8 y); have HR9 := Lib.hid (HR6.out.next (s.up D y) HB9.out (upd_set _ _ _ _ (Upd.refl _ w6))); have HL3 := Lib.hid (show (w6.setCell ⟨g2, D, none⟩ (u y)).cell? ⟨g, 1, none⟩ = some (.int .i64 D) from HR9.out.bi.cell 1); clear hp6 hu6))
  have HU7 := Lib.hid (upd_b HU6.out (upd_set w6 g2 D (u y) (Upd.refl _ w6)) (by omega))
  have HP7 := Lib.hid (PM.upd HP6.out (upd_set w6 g2 D (u y) (Upd.refl _ w6)) (fun k hk e => by have := HBB.out k hk; omega))
  have HR7 := Lib.hid HR9.out
  obtain ⟨xs, hxs⟩ : ∃ xs, s.up D y = xs := ⟨_, rfl⟩
  rw [hxs] at HR7
  have HXS := Lib.hid hxs
  clear HL0 HL0d HL1 HL3 nD fD i0 i1 i4 n0 n1 n2 n3 n4 n5 n6 n7 n8 n9 n10 n11 n12 HR5 HB5 HB9 HR9 HR6 HU6 HP6 hlg hlx HLD hxs
  generalize w6.setCell ⟨g2, D, none⟩ (u y) = w7 at *
  go_upto_region 50 with fail
  by_cases he : er = 0
  · subst he
    have n8 := HR7.out.bx.cell 8
    have f8 := HR7.out.bx.frozen 8
    have n8' : w7.cell? ⟨g2, 8, none⟩ = some (u xs.pc) := n8
    go_upto_region 53 with fail
    clear n8 n8' f8
    have hlg := HR7.out.lg; have hlx := HR7.out.lx
    have hU := upd_set w7 g2 8 (u p2) (Upd.refl _ w7)
    have HR8 := Lib.hid (HR7.out.next (xs.to p2) (blk_one HR7.out.bx 8 (u p2) rfl) hU)
    have HU8 := Lib.hid (upd_b HU7.out hU (by omega))
    have HP8 := Lib.hid (PM.upd HP7.out hU (fun k hk e => by have := HBB.out k hk; omega))
    obtain ⟨s8, hs8⟩ : ∃ s8, xs.to p2 = s8 := ⟨_, rfl⟩
    rw [hs8] at HR8
    have HS8 := Lib.hid hs8
    clear hs8 hU HR7 HU7 HP7 hlg hlx
    generalize w7.setCell ⟨g2, 8, none⟩ (u p2) = w9 at *
    obtain ⟨n0, n1, n2, n3, n4, n5, n6, n7, n8, n9, n10, n11, n12⟩ := Blk.cells13 HR8.out.bx
    obtain ⟨z0, z1, z2, z3, z4, z5, z6, z7, z8, z9, z10, z11, z12⟩ := Blk.cells13 HR8.out.b1
    obtain ⟨f0, f1, f2, f3, f4, f5, f6, f7, f8, f9, f10, f11, f12⟩ := Blk.frozen13 HR8.out.b1
    go_wp2_with fail
    clear n0 n1 n2 n3 n4 n5 n6 n7 n8 n9 n10 n11 n12 z0 z1 z2 z3 z4 z5 z6 z7 z8 z9 z10 z11 z12 f0 f1 f2 f3 f4 f5 f6 f7 f8 f9 f10 f11 f12
    obtain ⟨hB, hU⟩ := blk13 HR8.out.b1 s8
    have HL := Lib.hid (upd_b HU8.out hU (by omega))
    have HPL := Lib.hid (PM.upd (HP8.out) hU (fun k hk e => by have := HBB.out k hk; omega))
    obtain ⟨w8, hw8⟩ : ∃ w8, put13 w9 (w.heap.size + 1) s8 = w8 := ⟨_, rfl⟩
    rw [hw8] at hB HL HPL
    simp only [put13] at hw8
    rw [hw8]
    clear hw8 hU
    obtain ⟨n0, n1, n2, n3, n4, n5, n6, n7, n8, n9, n10, n11, n12⟩ := Blk.cells13 hB
    exact bodyPost_ret (v := .tuple #[sv s8, .bool false, .int .i64 0]) (by simp [results, Tryd.results31, go_sem, n0, n1, n2, n3, n4, n5, n6, n7, n8, n9, n10, n11, n12]) rfl (HOK.out (by trivial) _ _ ⟨by rw [← HS8.out, ← HXS.out, ← HP2.out]; rfl, HPL.out, HL.out⟩)
  · have he2 : (er != 0) = true := by simpa using he
    have HE := Lib.hid he
    clear he
    obtain ⟨n0, n1, n2, n3, n4, n5, n6, n7, n8, n9, n10, n11, n12⟩ := Blk.cells13 HR7.out.b0
    obtain ⟨z0, z1, z2, z3, z4, z5, z6, z7, z8, z9, z10, z11, z12⟩ := Blk.cells13 HR7.out.b1
    obtain ⟨f0, f1, f2, f3, f4, f5, f6, f7, f8, f9, f10, f11, f12⟩ := Blk.frozen13 HR7.out.b1
    have hlg := HR7.out.lg; have hlx := HR7.out.lx
    go_wp2_with fail
    clear n0 n1 n2 n3 n4 n5 n6 n7 n8 n9 n10 n11 n12 z0 z1 z2 z3 z4 z5 z6 z7 z8 z9 z10 z11 z12 f0 f1 f2 f3 f4 f5 f6 f7 f8 f9 f10 f11 f12
    obtain ⟨hB, hU⟩ := blk13 HR7.out.b1 s
    have HL := Lib.hid (upd_b HU7.out hU (by omega))
    have HPL := Lib.hid (PM.upd (HP7.out) hU (fun k hk e => by have := HBB.out k hk; omega))
    obtain ⟨w8, hw8⟩ : ∃ w8, put13 w7 (w.heap.size + 1) s = w8 := ⟨_, rfl⟩
    rw [hw8] at hB HL HPL
    simp only [put13] at hw8
    rw [hw8]
    clear hw8 hU
    obtain ⟨n0, n1, n2, n3, n4, n5, n6, n7, n8, n9, n10, n11, n12⟩ := Blk.cells13 hB
    exact bodyPost_ret (v := .tuple #[sv s, .bool false, .int .i64 er]) (by simp [results, Tryd.results31, go_sem, n0, n1, n2, n3, n4, n5, n6, n7, n8, n9, n10, n11, n12]) rfl (HNO.out HE.out _ _ ⟨rfl, HPL.out, HL.out⟩)
set_option maxRecDepth 100000 in
set_option maxHeartbeats 2000000 in
theorem rst13 (s : S) (n0 : Nat) (h : Hd) (m : St) (w : World) (p : RP n0 h m w) (hf : Nat) (hh : hf < 65536) (hfe : fetchV m (s.pc.toNat : Int) = ((hf : Int), 0)) (D N M : Nat) (i : Int) (hw0 : Wi 13 D N M i) (htf : Tp.takeF 21 0 hf = (13, ⟨D, N, M, i⟩, 0)) : Calls Tryd.prog 31 #[sv s, ptr h.r] w (RpEnd n0 h (if (doS 13 D N M i s m).2.1 = 0 then ((doS 13 D N M i s m).1, false, 0, (doS 13 D N M i s m).2.2) else (s, false, (doS 13 D N M i s m).2.1, (doS 13 D N M i s m).2.2)) w) := by
  have HTF := Lib.hid htf
  clear htf
  have hir := hw0.n8
  obtain ⟨ad, had⟩ : ∃ ad, addrV 13 N M (BitVec.ofInt 32 i) s = ad := ⟨_, rfl⟩
  have g2' : IntKind.u32.wrap (4 * ((BitVec.ofInt 32 i).toNat : Int)) = ((4#32 * BitVec.ofInt 32 i).toNat : Int) := by rw [IntKind.wrap_u32]; exact four_w _
  have g3' : IntKind.u32.wrap (((s.r N).toNat : Int) + ((4#32 * BitVec.ofInt 32 i).toNat : Int)) = (ad.toNat : Int) := by rw [IntKind.wrap_u32, ← had]; exact add_w _ _
  have HAD := Lib.hid had
  have HG2 := Lib.hid g2'; have HG3' := Lib.hid g3'
  clear had g2' g3' hir
  have hl := fun W p => MmR.store n0 h m W (ad.toNat : Int) ((s.r D).toNat : Int) (by omega) (bd ad) ⟨by omega, bd (s.r D)⟩ p
  obtain ⟨er, her⟩ : ∃ er, storeE m (ad.toNat : Int) = er := ⟨_, rfl⟩
  have hl2 : ∀ W, RP n0 h m W → Calls Tryd.prog 50 #[ptr h.r, u ad, u (s.r D)] W fun e w' => e = .returned (.int .i64 er) ∧ RP n0 h (storeS m (ad.toNat : Int) ((s.r D).toNat : Int)) w' ∧ Upd h.X W w' := fun W p => (hl W p).mono fun e w' ⟨h1, h2⟩ => ⟨by rw [h1, her], h2⟩
  have hdo : doS 13 D N M i s m = (s.to (s.pc + 2#32), er, storeS m (ad.toNat : Int) ((s.r D).toNat : Int)) := by rw [← her, ← HAD.out]; rfl
  have hok : er = 0 → ∀ e w', RpEnd n0 h (s.to (s.pc + 2#32), false, 0, storeS m (ad.toNat : Int) ((s.r D).toNat : Int)) w e w' → RpEnd n0 h (if (doS 13 D N M i s m).2.1 = 0 then ((doS 13 D N M i s m).1, false, 0, (doS 13 D N M i s m).2.2) else (s, false, (doS 13 D N M i s m).2.1, (doS 13 D N M i s m).2.2)) w e w' := fun he e w' hh => by
    rw [hdo]; show RpEnd n0 h (if er = 0 then _ else _) w e w'; rw [if_pos he]; exact hh
  have hno : er ≠ 0 → ∀ e w', RpEnd n0 h (s, false, er, storeS m (ad.toNat : Int) ((s.r D).toNat : Int)) w e w' → RpEnd n0 h (if (doS 13 D N M i s m).2.1 = 0 then ((doS 13 D N M i s m).1, false, 0, (doS 13 D N M i s m).2.2) else (s, false, (doS 13 D N M i s m).2.1, (doS 13 D N M i s m).2.2)) w e w' := fun he e w' hh => by
    rw [hdo]; show RpEnd n0 h (if er = 0 then _ else _) w e w'; rw [if_neg he]; exact hh
  obtain ⟨rr, hrr⟩ : ∃ rr, (if (doS 13 D N M i s m).2.1 = 0 then ((doS 13 D N M i s m).1, false, 0, (doS 13 D N M i s m).2.2) else (s, false, (doS 13 D N M i s m).2.1, (doS 13 D N M i s m).2.2)) = rr := ⟨_, rfl⟩
  rw [hrr] at hok hno ⊢
  have HOK := Lib.hid hok; have HNO := Lib.hid hno
  clear hdo hok hno hrr
  have HLD := Lib.hid hl2
  clear hl hl2 her
  have hX : ∀ k, h.X k → k < w.heap.size := fun k hk => (p.lt (Hd.XB hk)).2
  have hBB : ∀ k, h.B k → k < w.heap.size := fun k hk => (p.lt hk).2
  have hF := fun W p => MmR.fetch n0 h m W (s.pc.toNat : Int) (by omega) (bd s.pc) p
  rw [hfe] at hF
  have HX := Lib.hid hX; have HBB := Lib.hid hBB; have HP := Lib.hid p; have HF := Lib.hid hF
  clear hX hBB p hF hfe
  go_enter Tryd.func31, Tryd.ntmps31
  go_wp2_with fail
  obtain ⟨hsx, hbel⟩ := sx_new w s
  refine (HF.out _ (PM.below HP.out hbel)).mono ?_
  rintro e w1 ⟨rfl, nq, rfl⟩
  have HS := Lib.hid (hsx.drewN nq)
  have HB := Lib.hid (below_drewN hbel nq)
  obtain ⟨w1, hw1⟩ : ∃ w1, w1 = ((w.alloc (.cells (sC s) 51)).alloc (.cells (sC zS) 51)).drewN nq := ⟨_, rfl⟩
  rw [← hw1] at HS HB ⊢
  clear hw1 hsx hbel HF
  obtain ⟨n0, n1, n2, n3, n4, n5, n6, n7, n8, n9, n10, n11, n12⟩ := Blk.cells13 HS.out.b0
  obtain ⟨z0, z1, z2, z3, z4, z5, z6, z7, z8, z9, z10, z11, z12⟩ := Blk.cells13 HS.out.b1
  obtain ⟨f0, f1, f2, f3, f4, f5, f6, f7, f8, f9, f10, f11, f12⟩ := Blk.frozen13 HS.out.b1
  go_wp2_with fail
  refine (Tp.takeR hf hh _).mono ?_
  rintro e w2 ⟨rfl, hb⟩
  rw [HTF.out, show Tp.resV (13, ⟨D, N, M, i⟩, 0) = .tuple #[.agg #[.int .i64 13, .int .i64 D, .int .i64 N, .int .i64 M, .int .i64 i], .int .i64 (0 : Nat)] from rfl]
  have HS2 := Lib.hid (HS.out.below hb)
  have HB2 := Lib.hid (HB.out.trans (hb.mono HB.out.size))
  clear n0 n1 n2 n3 n4 n5 n6 n7 n8 n9 n10 n11 n12 z0 z1 z2 z3 z4 z5 z6 z7 z8 z9 z10 z11 z12 f0 f1 f2 f3 f4 f5 f6 f7 f8 f9 f10 f11 f12 hb HS HB
  go_upto_region 7 with fail
  have hx : Below w2.heap.size w2 (w2.alloc (.cells #[.int .i64 13, .int .i64 D, .int .i64 N, .int .i64 M, .int .i64 i] 58)) := (Below.refl _ _).alloc (Nat.le_refl _) _
  have HS3 := Lib.hid (HS2.out.below hx)
  have HB3 := Lib.hid (HB2.out.trans (hx.mono HB2.out.size))
  have HI3 := Lib.hid (Blk.new w2 58 #[.int .i64 13, .int .i64 D, .int .i64 N, .int .i64 M, .int .i64 i])
  have HG := Lib.hid (HS2.out.b1.lt)
  have HG3 := Lib.hid (HI3.out.lt)
  obtain ⟨w3, hw3⟩ : ∃ w3, w2.alloc (.cells #[.int .i64 13, .int .i64 D, .int .i64 N, .int .i64 M, .int .i64 i] 58) = w3 := ⟨_, rfl⟩
  rw [hw3] at HS3 HB3 HI3 HG3 ⊢
  generalize w2.heap.size = g at *
  clear hw3 hx HS2 HB2
  obtain ⟨n0, n1, n2, n3, n4, n5, n6, n7, n8, n9, n10, n11, n12⟩ := Blk.cells13 HS3.out.b0
  have i4 : w3.cell? ⟨g, 4, none⟩ = some (.int .i64 i) := HI3.out.cell 4
  have hbx := Blk.new w3 51 (sC s)
  have hxx : Below w3.heap.size w3 (w3.alloc (.cells (sC s) 51)) := (Below.refl _ _).alloc (Nat.le_refl _) _
  have hx0 : Below w3.heap.size w3 (w3.alloc (.cells (sC zS) 51)) := (Below.refl _ _).alloc (Nat.le_refl _) _
  have hSA := Sx.below HS3.out hx0
  have hIA := Blk.below HI3.out hx0 HG3.out
  have hS2 := Sx.below HS3.out hxx
  have hI2 := Blk.below HI3.out hxx HG3.out
  have hgl : w.heap.size + 1 < g := HG.out
  have hgl3 : g < w3.heap.size := HG3.out
  have HR := Lib.hid (show Rx w g w3.heap.size 13 D N M i s s (w3.alloc (.cells (sC s) 51)).drew from ⟨hS2.b0, hS2.b1, hI2, hbx, hgl, hgl3⟩)
  have HBW := Lib.hid (show Below w.heap.size w (w3.alloc (.cells (sC s) 51)).drew from (HB3.out.trans (hxx.mono HB3.out.size)).drew)
  have HL0 := Lib.hid (show K13e w.heap.size s w3 (w3.cell? ⟨g, 4, none⟩ = some (.int .i64 i)) from ⟨n0, n1, n2, n3, n4, n5, n6, n7, n8, n9, n10, n11, n12, i4⟩)
  have HL0d := Lib.hid (show K13e w.heap.size s (w3.drew) (w3.drew.cell? ⟨g, 4, none⟩ = some (.int .i64 i)) from ⟨n0, n1, n2, n3, n4, n5, n6, n7, n8, n9, n10, n11, n12, i4⟩)
  have HL1 := Lib.hid (show K13e w.heap.size s ((w3.alloc (.cells #[Value.int .u32 0, Value.int .u32 0, Value.int .u32 0, Value.int .u32 0, Value.int .u32 0, Value.int .u32 0, Value.int .u32 0, Value.int .u32 0, Value.int .u32 0, .bool false, .bool false, .bool false, .bool false] 51)).drew) ((w3.alloc (.cells #[Value.int .u32 0, Value.int .u32 0, Value.int .u32 0, Value.int .u32 0, Value.int .u32 0, Value.int .u32 0, Value.int .u32 0, Value.int .u32 0, Value.int .u32 0, .bool false, .bool false, .bool false, .bool false] 51)).drew.cell? ⟨g, 4, none⟩ = some (.int .i64 i)) from ⟨hSA.b0.cell 0, hSA.b0.cell 1, hSA.b0.cell 2, hSA.b0.cell 3, hSA.b0.cell 4, hSA.b0.cell 5, hSA.b0.cell 6, hSA.b0.cell 7, hSA.b0.cell 8, hSA.b0.cell 9, hSA.b0.cell 10, hSA.b0.cell 11, hSA.b0.cell 12, hIA.cell 4⟩)
  have HL3 := Lib.hid (show K13e w.heap.size s ((w3.alloc (.cells (sC s) 51)).drew) ((w3.alloc (.cells (sC s) 51)).drew.cell? ⟨g, 4, none⟩ = some (.int .i64 i)) from ⟨HR.out.b0.cell 0, HR.out.b0.cell 1, HR.out.b0.cell 2, HR.out.b0.cell 3, HR.out.b0.cell 4, HR.out.b0.cell 5, HR.out.b0.cell 6, HR.out.b0.cell 7, HR.out.b0.cell 8, HR.out.b0.cell 9, HR.out.b0.cell 10, HR.out.b0.cell 11, HR.out.b0.cell 12, HR.out.bi.cell 4⟩)
  clear hbx hxx hx0 hSA hIA hgl hgl3 hS2 hI2
  obtain ⟨imm, himm⟩ : ∃ imm, BitVec.ofInt 32 i = imm := ⟨_, rfl⟩
  obtain ⟨p2, hp2⟩ : ∃ p2, s.pc + 2#32 = p2 := ⟨_, rfl⟩
  have hw := wrap_ofInt i
  have hnp2 : IntKind.u32.wrap ((s.pc.toNat : Int) + 2) = ((s.pc + 2#32).toNat : Int) := by rw [IntKind.wrap_u32]; exact next_pc s.pc
  rw [himm] at hw
  rw [hp2] at hnp2
  have HIM := Lib.hid himm; have HP2 := Lib.hid hp2
  clear himm hp2
  go_region_held3 (fun w' => K13e w.heap.size s w' (w'.cell? ⟨g, 4, none⟩ = some (.int .i64 i))) (first | with_reducible exact HL0.out | with_reducible exact HL0d.out | with_reducible exact HL1.out | with_reducible exact HL3.out) (fail)
  clear HL0 HL0d HL1 HL3 n0 n1 n2 n3 n4 n5 n6 n7 n8 n9 n10 n11 n12 i4 HS3 HI3 HB3 HG HG3
  obtain ⟨w4, hw4⟩ : ∃ w4, (w3.alloc (.cells (sC s) 51)).drew = w4 := ⟨_, rfl⟩
  rw [hw4] at HR HBW
  simp only [sC] at hw4
  rw [hw4]
  clear hw4
  generalize w3.heap.size = g2 at *
  have i0 : w4.cell? ⟨g, 0, none⟩ = some (.int .i64 13) := HR.out.bi.cell 0
  have i1 : w4.cell? ⟨g, 1, none⟩ = some (.int .i64 D) := HR.out.bi.cell 1
  have i2 : w4.cell? ⟨g, 2, none⟩ = some (.int .i64 N) := HR.out.bi.cell 2
  have i3 : w4.cell? ⟨g, 3, none⟩ = some (.int .i64 M) := HR.out.bi.cell 3
  have rN := HR.out.b0.reg N hw0.n8
  have rM := HR.out.b0.reg M hw0.m8
  have hN2 : (N : Int) < 8 := by have := hw0.n8; omega
  have hM2 : (M : Int) < 8 := by have := hw0.m8; omega
  have hD8 : D < 8 := hw0.d8 (by decide)
  have rD := HR.out.b0.reg D hD8
  have hD2 : (D : Int) < 8 := by omega
  have hdm : (D : Int).tmod 8 = (D : Int) := by rw [tmod8, Nat.mod_eq_of_lt hD8]
  have hdm2 : (D : Int) % 8 = (D : Int) := by omega
  have HDM := Lib.hid hdm2
  go_wp2_with fail
  go_quiet (fail)
  have HR5 := Lib.hid (HR.out.drewN nq)
  have HB5 := Lib.hid (below_drewN HBW.out nq)
  generalize w4.drewN nq = w5 at *
  clear i0 i1 i2 i3 rN rM rD HR HBW
  have i0 : w5.cell? ⟨g, 0, none⟩ = some (.int .i64 13) := HR5.out.bi.cell 0
  have i1 : w5.cell? ⟨g, 1, none⟩ = some (.int .i64 D) := HR5.out.bi.cell 1
  have i4 : w5.cell? ⟨g, 4, none⟩ = some (.int .i64 i) := HR5.out.bi.cell 4
  obtain ⟨n0, n1, n2, n3, n4, n5, n6, n7, n8, n9, n10, n11, n12⟩ := Blk.cells13 HR5.out.b0
  have g2' := HG2.out; have g3' := HG3'.out
  rw [HIM.out] at g2' g3'
  generalize 4#32 * imm = i4' at g2' g3'
  have ub := bd (s.r N); have ub2 := bd (s.r M); have ub3 := bd imm
  go_wp2_with fail
  refine (HLD.out _ (PM.below HP.out HB5.out)).mono ?_
  rintro e w7 ⟨rfl, hp6, hu6⟩
  have HP7 := Lib.hid hp6
  have HR7 := Lib.hid (HR5.out.upd hu6 HX.out)
  have HU7 := Lib.hid ((Upd.of_below HB5.out h.X).trans hu6)
  clear hp6 hu6 i0 i1 i4 n0 n1 n2 n3 n4 n5 n6 n7 n8 n9 n10 n11 n12 HR5 HB5 HLD
  go_upto_region 50 with fail
  by_cases he : er = 0
  · subst he
    have n8 := HR7.out.bx.cell 8
    have f8 := HR7.out.bx.frozen 8
    have n8' : w7.cell? ⟨g2, 8, none⟩ = some (u s.pc) := n8
    go_upto_region 53 with fail
    clear n8 n8' f8
    have hlg := HR7.out.lg; have hlx := HR7.out.lx
    have hU := upd_set w7 g2 8 (u p2) (Upd.refl _ w7)
    have HR8 := Lib.hid (HR7.out.next (s.to p2) (blk_one HR7.out.bx 8 (u p2) rfl) hU)
    have HU8 := Lib.hid (upd_b HU7.out hU (by omega))
    have HP8 := Lib.hid (PM.upd HP7.out hU (fun k hk e => by have := HBB.out k hk; omega))
    obtain ⟨s8, hs8⟩ : ∃ s8, s.to p2 = s8 := ⟨_, rfl⟩
    rw [hs8] at HR8
    have HS8 := Lib.hid hs8
    clear hs8 hU HR7 HU7 HP7 hlg hlx
    generalize w7.setCell ⟨g2, 8, none⟩ (u p2) = w9 at *
    obtain ⟨n0, n1, n2, n3, n4, n5, n6, n7, n8, n9, n10, n11, n12⟩ := Blk.cells13 HR8.out.bx
    obtain ⟨z0, z1, z2, z3, z4, z5, z6, z7, z8, z9, z10, z11, z12⟩ := Blk.cells13 HR8.out.b1
    obtain ⟨f0, f1, f2, f3, f4, f5, f6, f7, f8, f9, f10, f11, f12⟩ := Blk.frozen13 HR8.out.b1
    go_wp2_with fail
    clear n0 n1 n2 n3 n4 n5 n6 n7 n8 n9 n10 n11 n12 z0 z1 z2 z3 z4 z5 z6 z7 z8 z9 z10 z11 z12 f0 f1 f2 f3 f4 f5 f6 f7 f8 f9 f10 f11 f12
    obtain ⟨hB, hU⟩ := blk13 HR8.out.b1 s8
    have HL := Lib.hid (upd_b HU8.out hU (by omega))
    have HPL := Lib.hid (PM.upd (HP8.out) hU (fun k hk e => by have := HBB.out k hk; omega))
    obtain ⟨w8, hw8⟩ : ∃ w8, put13 w9 (w.heap.size + 1) s8 = w8 := ⟨_, rfl⟩
    rw [hw8] at hB HL HPL
    simp only [put13] at hw8
    rw [hw8]
    clear hw8 hU
    obtain ⟨n0, n1, n2, n3, n4, n5, n6, n7, n8, n9, n10, n11, n12⟩ := Blk.cells13 hB
    exact bodyPost_ret (v := .tuple #[sv s8, .bool false, .int .i64 0]) (by simp [results, Tryd.results31, go_sem, n0, n1, n2, n3, n4, n5, n6, n7, n8, n9, n10, n11, n12]) rfl (HOK.out (by trivial) _ _ ⟨by rw [← HS8.out, ← HP2.out], HPL.out, HL.out⟩)
  · have he2 : (er != 0) = true := by simpa using he
    have HE := Lib.hid he
    clear he
    obtain ⟨n0, n1, n2, n3, n4, n5, n6, n7, n8, n9, n10, n11, n12⟩ := Blk.cells13 HR7.out.b0
    obtain ⟨z0, z1, z2, z3, z4, z5, z6, z7, z8, z9, z10, z11, z12⟩ := Blk.cells13 HR7.out.b1
    obtain ⟨f0, f1, f2, f3, f4, f5, f6, f7, f8, f9, f10, f11, f12⟩ := Blk.frozen13 HR7.out.b1
    have hlg := HR7.out.lg; have hlx := HR7.out.lx
    go_wp2_with fail
    clear n0 n1 n2 n3 n4 n5 n6 n7 n8 n9 n10 n11 n12 z0 z1 z2 z3 z4 z5 z6 z7 z8 z9 z10 z11 z12 f0 f1 f2 f3 f4 f5 f6 f7 f8 f9 f10 f11 f12
    obtain ⟨hB, hU⟩ := blk13 HR7.out.b1 s
    have HL := Lib.hid (upd_b HU7.out hU (by omega))
    have HPL := Lib.hid (PM.upd (HP7.out) hU (fun k hk e => by have := HBB.out k hk; omega))
    obtain ⟨w8, hw8⟩ : ∃ w8, put13 w7 (w.heap.size + 1) s = w8 := ⟨_, rfl⟩
    rw [hw8] at hB HL HPL
    simp only [put13] at hw8
    rw [hw8]
    clear hw8 hU
    obtain ⟨n0, n1, n2, n3, n4, n5, n6, n7, n8, n9, n10, n11, n12⟩ := Blk.cells13 hB
    exact bodyPost_ret (v := .tuple #[sv s, .bool false, .int .i64 er]) (by simp [results, Tryd.results31, go_sem, n0, n1, n2, n3, n4, n5, n6, n7, n8, n9, n10, n11, n12]) rfl (HNO.out HE.out _ _ ⟨rfl, HPL.out, HL.out⟩)
set_option maxRecDepth 100000 in
set_option maxHeartbeats 2000000 in
theorem rst17 (s : S) (n0 : Nat) (h : Hd) (m : St) (w : World) (p : RP n0 h m w) (hf : Nat) (hh : hf < 65536) (hfe : fetchV m (s.pc.toNat : Int) = ((hf : Int), 0)) (D N M : Nat) (i : Int) (hw0 : Wi 17 D N M i) (htf : Tp.takeF 21 0 hf = (17, ⟨D, N, M, i⟩, 0)) : Calls Tryd.prog 31 #[sv s, ptr h.r] w (RpEnd n0 h ((doS 17 D N M i s m).1, false, 0, m) w) := by
  have HTF := Lib.hid htf
  clear htf
  have hX : ∀ k, h.X k → k < w.heap.size := fun k hk => (p.lt (Hd.XB hk)).2
  have hBB : ∀ k, h.B k → k < w.heap.size := fun k hk => (p.lt hk).2
  have hF := fun W p => MmR.fetch n0 h m W (s.pc.toNat : Int) (by omega) (bd s.pc) p
  rw [hfe] at hF
  have HX := Lib.hid hX; have HBB := Lib.hid hBB; have HP := Lib.hid p; have HF := Lib.hid hF
  clear hX hBB p hF hfe
  go_enter Tryd.func31, Tryd.ntmps31
  go_wp2_with fail
  obtain ⟨hsx, hbel⟩ := sx_new w s
  refine (HF.out _ (PM.below HP.out hbel)).mono ?_
  rintro e w1 ⟨rfl, nq, rfl⟩
  have HS := Lib.hid (hsx.drewN nq)
  have HB := Lib.hid (below_drewN hbel nq)
  obtain ⟨w1, hw1⟩ : ∃ w1, w1 = ((w.alloc (.cells (sC s) 51)).alloc (.cells (sC zS) 51)).drewN nq := ⟨_, rfl⟩
  rw [← hw1] at HS HB ⊢
  clear hw1 hsx hbel HF
  obtain ⟨n0, n1, n2, n3, n4, n5, n6, n7, n8, n9, n10, n11, n12⟩ := Blk.cells13 HS.out.b0
  obtain ⟨z0, z1, z2, z3, z4, z5, z6, z7, z8, z9, z10, z11, z12⟩ := Blk.cells13 HS.out.b1
  obtain ⟨f0, f1, f2, f3, f4, f5, f6, f7, f8, f9, f10, f11, f12⟩ := Blk.frozen13 HS.out.b1
  go_wp2_with fail
  refine (Tp.takeR hf hh _).mono ?_
  rintro e w2 ⟨rfl, hb⟩
  rw [HTF.out, show Tp.resV (17, ⟨D, N, M, i⟩, 0) = .tuple #[.agg #[.int .i64 17, .int .i64 D, .int .i64 N, .int .i64 M, .int .i64 i], .int .i64 (0 : Nat)] from rfl]
  have HS2 := Lib.hid (HS.out.below hb)
  have HB2 := Lib.hid (HB.out.trans (hb.mono HB.out.size))
  clear n0 n1 n2 n3 n4 n5 n6 n7 n8 n9 n10 n11 n12 z0 z1 z2 z3 z4 z5 z6 z7 z8 z9 z10 z11 z12 f0 f1 f2 f3 f4 f5 f6 f7 f8 f9 f10 f11 f12 hb HS HB
  go_upto_region 7 with fail
  have hx : Below w2.heap.size w2 (w2.alloc (.cells #[.int .i64 17, .int .i64 D, .int .i64 N, .int .i64 M, .int .i64 i] 58)) := (Below.refl _ _).alloc (Nat.le_refl _) _
  have HS3 := Lib.hid (HS2.out.below hx)
  have HB3 := Lib.hid (HB2.out.trans (hx.mono HB2.out.size))
  have HI3 := Lib.hid (Blk.new w2 58 #[.int .i64 17, .int .i64 D, .int .i64 N, .int .i64 M, .int .i64 i])
  have HG := Lib.hid (HS2.out.b1.lt)
  have HG3 := Lib.hid (HI3.out.lt)
  obtain ⟨w3, hw3⟩ : ∃ w3, w2.alloc (.cells #[.int .i64 17, .int .i64 D, .int .i64 N, .int .i64 M, .int .i64 i] 58) = w3 := ⟨_, rfl⟩
  rw [hw3] at HS3 HB3 HI3 HG3 ⊢
  generalize w2.heap.size = g at *
  clear hw3 hx HS2 HB2
  obtain ⟨n0, n1, n2, n3, n4, n5, n6, n7, n8, n9, n10, n11, n12⟩ := Blk.cells13 HS3.out.b0
  have i4 : w3.cell? ⟨g, 4, none⟩ = some (.int .i64 i) := HI3.out.cell 4
  have hbx := Blk.new w3 51 (sC s)
  have hxx : Below w3.heap.size w3 (w3.alloc (.cells (sC s) 51)) := (Below.refl _ _).alloc (Nat.le_refl _) _
  have hx0 : Below w3.heap.size w3 (w3.alloc (.cells (sC zS) 51)) := (Below.refl _ _).alloc (Nat.le_refl _) _
  have hSA := Sx.below HS3.out hx0
  have hIA := Blk.below HI3.out hx0 HG3.out
  have hS2 := Sx.below HS3.out hxx
  have hI2 := Blk.below HI3.out hxx HG3.out
  have hgl : w.heap.size + 1 < g := HG.out
  have hgl3 : g < w3.heap.size := HG3.out
  have HR := Lib.hid (show Rx w g w3.heap.size 17 D N M i s s (w3.alloc (.cells (sC s) 51)).drew from ⟨hS2.b0, hS2.b1, hI2, hbx, hgl, hgl3⟩)
  have HBW := Lib.hid (show Below w.heap.size w (w3.alloc (.cells (sC s) 51)).drew from (HB3.out.trans (hxx.mono HB3.out.size)).drew)
  have HL0 := Lib.hid (show K13e w.heap.size s w3 (w3.cell? ⟨g, 4, none⟩ = some (.int .i64 i)) from ⟨n0, n1, n2, n3, n4, n5, n6, n7, n8, n9, n10, n11, n12, i4⟩)
  have HL0d := Lib.hid (show K13e w.heap.size s (w3.drew) (w3.drew.cell? ⟨g, 4, none⟩ = some (.int .i64 i)) from ⟨n0, n1, n2, n3, n4, n5, n6, n7, n8, n9, n10, n11, n12, i4⟩)
  have HL1 := Lib.hid (show K13e w.heap.size s ((w3.alloc (.cells #[Value.int .u32 0, Value.int .u32 0, Value.int .u32 0, Value.int .u32 0, Value.int .u32 0, Value.int .u32 0, Value.int .u32 0, Value.int .u32 0, Value.int .u32 0, .bool false, .bool false, .bool false, .bool false] 51)).drew) ((w3.alloc (.cells #[Value.int .u32 0, Value.int .u32 0, Value.int .u32 0, Value.int .u32 0, Value.int .u32 0, Value.int .u32 0, Value.int .u32 0, Value.int .u32 0, Value.int .u32 0, .bool false, .bool false, .bool false, .bool false] 51)).drew.cell? ⟨g, 4, none⟩ = some (.int .i64 i)) from ⟨hSA.b0.cell 0, hSA.b0.cell 1, hSA.b0.cell 2, hSA.b0.cell 3, hSA.b0.cell 4, hSA.b0.cell 5, hSA.b0.cell 6, hSA.b0.cell 7, hSA.b0.cell 8, hSA.b0.cell 9, hSA.b0.cell 10, hSA.b0.cell 11, hSA.b0.cell 12, hIA.cell 4⟩)
  have HL3 := Lib.hid (show K13e w.heap.size s ((w3.alloc (.cells (sC s) 51)).drew) ((w3.alloc (.cells (sC s) 51)).drew.cell? ⟨g, 4, none⟩ = some (.int .i64 i)) from ⟨HR.out.b0.cell 0, HR.out.b0.cell 1, HR.out.b0.cell 2, HR.out.b0.cell 3, HR.out.b0.cell 4, HR.out.b0.cell 5, HR.out.b0.cell 6, HR.out.b0.cell 7, HR.out.b0.cell 8, HR.out.b0.cell 9, HR.out.b0.cell 10, HR.out.b0.cell 11, HR.out.b0.cell 12, HR.out.bi.cell 4⟩)
  clear hbx hxx hx0 hSA hIA hgl hgl3 hS2 hI2
  obtain ⟨imm, himm⟩ : ∃ imm, BitVec.ofInt 32 i = imm := ⟨_, rfl⟩
  obtain ⟨p2, hp2⟩ : ∃ p2, s.pc + 2#32 = p2 := ⟨_, rfl⟩
  have hw := wrap_ofInt i
  have hnp2 : IntKind.u32.wrap ((s.pc.toNat : Int) + 2) = ((s.pc + 2#32).toNat : Int) := by rw [IntKind.wrap_u32]; exact next_pc s.pc
  rw [himm] at hw
  rw [hp2] at hnp2
  have HIM := Lib.hid himm; have HP2 := Lib.hid hp2
  clear himm hp2
  go_region_held3 (fun w' => K13e w.heap.size s w' (w'.cell? ⟨g, 4, none⟩ = some (.int .i64 i))) (first | with_reducible exact HL0.out | with_reducible exact HL0d.out | with_reducible exact HL1.out | with_reducible exact HL3.out) (fail)
  clear HL0 HL0d HL1 HL3 n0 n1 n2 n3 n4 n5 n6 n7 n8 n9 n10 n11 n12 i4 HS3 HI3 HB3 HG HG3
  obtain ⟨w4, hw4⟩ : ∃ w4, (w3.alloc (.cells (sC s) 51)).drew = w4 := ⟨_, rfl⟩
  rw [hw4] at HR HBW
  simp only [sC] at hw4
  rw [hw4]
  clear hw4
  generalize w3.heap.size = g2 at *
  have i0 : w4.cell? ⟨g, 0, none⟩ = some (.int .i64 17) := HR.out.bi.cell 0
  have i1 : w4.cell? ⟨g, 1, none⟩ = some (.int .i64 D) := HR.out.bi.cell 1
  have i2 : w4.cell? ⟨g, 2, none⟩ = some (.int .i64 N) := HR.out.bi.cell 2
  have i3 : w4.cell? ⟨g, 3, none⟩ = some (.int .i64 M) := HR.out.bi.cell 3
  have rN := HR.out.b0.reg N hw0.n8
  have rM := HR.out.b0.reg M hw0.m8
  have hN2 : (N : Int) < 8 := by have := hw0.n8; omega
  have hM2 : (M : Int) < 8 := by have := hw0.m8; omega
  have hD8 : D < 8 := hw0.d8 (by decide)
  have rD := HR.out.b0.reg D hD8
  have hD2 : (D : Int) < 8 := by omega
  have hdm : (D : Int).tmod 8 = (D : Int) := by rw [tmod8, Nat.mod_eq_of_lt hD8]
  have hdm2 : (D : Int) % 8 = (D : Int) := by omega
  have HDM := Lib.hid hdm2
  go_wp2_with fail
  go_quiet (fail)
  have HR5 := Lib.hid (HR.out.drewN nq)
  have HB5 := Lib.hid (below_drewN HBW.out nq)
  generalize w4.drewN nq = w5 at *
  clear i0 i1 i2 i3 rN rM rD HR HBW
  have i0 : w5.cell? ⟨g, 0, none⟩ = some (.int .i64 17) := HR5.out.bi.cell 0
  have i1 : w5.cell? ⟨g, 1, none⟩ = some (.int .i64 D) := HR5.out.bi.cell 1
  have i4 : w5.cell? ⟨g, 4, none⟩ = some (.int .i64 i) := HR5.out.bi.cell 4
  obtain ⟨n0, n1, n2, n3, n4, n5, n6, n7, n8, n9, n10, n11, n12⟩ := Blk.cells13 HR5.out.b0
  have g4' : IntKind.u32.wrap ((s.pc.toNat : Int) + 4) = ((s.pc + 4#32).toNat : Int) := by rw [IntKind.wrap_u32]; exact pc4 s.pc
  have g5' : IntKind.u32.wrap (((s.pc + 4#32).toNat : Int) + (imm.toNat : Int)) = ((s.pc + 4#32 + imm).toNat : Int) := by rw [IntKind.wrap_u32]; exact add_w _ _
  have g6' : IntKind.u32.wrap (((s.pc + 4#32 + imm).toNat : Int) + (imm.toNat : Int)) = ((s.pc + 4#32 + imm + imm).toNat : Int) := by rw [IntKind.wrap_u32]; exact add_w _ _
  have hpq : s.pc + 4#32 + imm + imm = s.pc + 4#32 + 2#32 * imm := by rw [BitVec.two_mul, BitVec.add_assoc]
  rw [hpq] at g6'
  obtain ⟨pf, hpf⟩ : ∃ pf, s.pc + 4#32 + 2#32 * imm = pf := ⟨_, rfl⟩
  rw [hpf] at g6'
  have HPF := Lib.hid hpf
  clear hpf hpq
  generalize s.pc + 4#32 + imm = p5 at g5' g6'
  generalize s.pc + 4#32 = p4 at g4' g5'
  have ub1 := bd s.pc; have ub2 := bd p4; have ub3 := bd p5; have ub4 := bd imm
  have HR7 := Lib.hid HR5.out
  have HU7 := Lib.hid (Upd.of_below HB5.out h.X)
  have HP7 := Lib.hid (PM.below HP.out HB5.out)
  go_upto_region 50 with fail
  clear i0 i1 i4 n0 n1 n2 n3 n4 n5 n6 n7 n8 n9 n10 n11 n12 HR5 HB5
  generalize w5 = w7 at *
  have n8 := HR7.out.bx.cell 8
  have f8 := HR7.out.bx.frozen 8
  have n8' : w7.cell? ⟨g2, 8, none⟩ = some (u s.pc) := n8
  go_upto_region 53 with fail
  clear n8 n8' f8
  have hlg := HR7.out.lg; have hlx := HR7.out.lx
  have hU := upd_set w7 g2 8 (u pf) (Upd.refl _ w7)
  have HR8 := Lib.hid (HR7.out.next (s.to pf) (blk_one HR7.out.bx 8 (u pf) rfl) hU)
  have HU8 := Lib.hid (upd_b HU7.out hU (by omega))
  have HP8 := Lib.hid (PM.upd HP7.out hU (fun k hk e => by have := HBB.out k hk; omega))
  obtain ⟨s8, hs8⟩ : ∃ s8, s.to pf = s8 := ⟨_, rfl⟩
  rw [hs8] at HR8
  have HS8 := Lib.hid hs8
  clear hs8 hU HR7 HU7 HP7 hlg hlx
  generalize w7.setCell ⟨g2, 8, none⟩ (u pf) = w9 at *
  obtain ⟨n0, n1, n2, n3, n4, n5, n6, n7, n8, n9, n10, n11, n12⟩ := Blk.cells13 HR8.out.bx
  obtain ⟨z0, z1, z2, z3, z4, z5, z6, z7, z8, z9, z10, z11, z12⟩ := Blk.cells13 HR8.out.b1
  obtain ⟨f0, f1, f2, f3, f4, f5, f6, f7, f8, f9, f10, f11, f12⟩ := Blk.frozen13 HR8.out.b1
  go_wp2_with fail
  clear n0 n1 n2 n3 n4 n5 n6 n7 n8 n9 n10 n11 n12 z0 z1 z2 z3 z4 z5 z6 z7 z8 z9 z10 z11 z12 f0 f1 f2 f3 f4 f5 f6 f7 f8 f9 f10 f11 f12
  obtain ⟨hB, hU⟩ := blk13 HR8.out.b1 s8
  have HL := Lib.hid (upd_b HU8.out hU (by omega))
  have HPL := Lib.hid (PM.upd (HP8.out) hU (fun k hk e => by have := HBB.out k hk; omega))
  obtain ⟨w8, hw8⟩ : ∃ w8, put13 w9 (w.heap.size + 1) s8 = w8 := ⟨_, rfl⟩
  rw [hw8] at hB HL HPL
  simp only [put13] at hw8
  rw [hw8]
  clear hw8 hU
  obtain ⟨n0, n1, n2, n3, n4, n5, n6, n7, n8, n9, n10, n11, n12⟩ := Blk.cells13 hB
  exact bodyPost_ret (v := .tuple #[sv s8, .bool false, .int .i64 0]) (by simp [results, Tryd.results31, go_sem, n0, n1, n2, n3, n4, n5, n6, n7, n8, n9, n10, n11, n12]) rfl ⟨by rw [← HS8.out, ← HPF.out, ← HIM.out]; rfl, HPL.out, HL.out⟩
theorem br_yes {s : S} {D N M : Nat} {i : Int} {m : St} (h : holdsB D s = true) : Ending.returned (.tuple #[sv (s.to (s.pc + 4#32 + 2#32 * BitVec.ofInt 32 i)), .bool false, .int .i64 0]) = .returned (.tuple #[sv ((doS 18 D N M i s m).1, false, (0 : Int), m).1, .bool ((doS 18 D N M i s m).1, false, (0 : Int), m).2.1, .int .i64 ((doS 18 D N M i s m).1, false, (0 : Int), m).2.2.1]) := by
  have e : (doS 18 D N M i s m).1 = s.to (nextV 18 D (BitVec.ofInt 32 i) s) := rfl
  have e2 : nextV 18 D (BitVec.ofInt 32 i) s = s.pc + 4#32 + 2#32 * BitVec.ofInt 32 i := by unfold nextV; rw [if_pos (.inr ⟨rfl, h⟩)]
  rw [e, e2]
theorem br_no {s : S} {D N M : Nat} {i : Int} {m : St} (h : holdsB D s = false) : Ending.returned (.tuple #[sv (s.to (s.pc + 2#32)), .bool false, .int .i64 0]) = .returned (.tuple #[sv ((doS 18 D N M i s m).1, false, (0 : Int), m).1, .bool ((doS 18 D N M i s m).1, false, (0 : Int), m).2.1, .int .i64 ((doS 18 D N M i s m).1, false, (0 : Int), m).2.2.1]) := by
  have e : (doS 18 D N M i s m).1 = s.to (nextV 18 D (BitVec.ofInt 32 i) s) := rfl
  have e2 : nextV 18 D (BitVec.ofInt 32 i) s = s.pc + 2#32 := by unfold nextV; rw [if_neg (by simp [h])]
  rw [e, e2]
set_option maxRecDepth 100000 in
set_option maxHeartbeats 2000000 in
theorem rst18t (s : S) (n0 : Nat) (h : Hd) (m : St) (w : World) (p : RP n0 h m w) (hf : Nat) (hh : hf < 65536) (hfe : fetchV m (s.pc.toNat : Int) = ((hf : Int), 0)) (D N M : Nat) (i : Int) (hw0 : Wi 18 D N M i) (htf : Tp.takeF 21 0 hf = (18, ⟨D, N, M, i⟩, 0)) (hb18 : holdsB D s = true) : Calls Tryd.prog 31 #[sv s, ptr h.r] w (RpEnd n0 h ((doS 18 D N M i s m).1, false, 0, m) w) := by
  have HTF := Lib.hid htf
  clear htf
  have hH := fun W => rholds D s W
  rw [hb18] at hH
  have HH := Lib.hid hH; have HB18 := Lib.hid hb18
  clear hH hb18
  have hX : ∀ k, h.X k → k < w.heap.size := fun k hk => (p.lt (Hd.XB hk)).2
  have hBB : ∀ k, h.B k → k < w.heap.size := fun k hk => (p.lt hk).2
  have hF := fun W p => MmR.fetch n0 h m W (s.pc.toNat : Int) (by omega) (bd s.pc) p
  rw [hfe] at hF
  have HX := Lib.hid hX; have HBB := Lib.hid hBB; have HP := Lib.hid p; have HF := Lib.hid hF
  clear hX hBB p hF hfe
  go_enter Tryd.func31, Tryd.ntmps31
  go_wp2_with fail
  obtain ⟨hsx, hbel⟩ := sx_new w s
  refine (HF.out _ (PM.below HP.out hbel)).mono ?_
  rintro e w1 ⟨rfl, nq, rfl⟩
  have HS := Lib.hid (hsx.drewN nq)
  have HB := Lib.hid (below_drewN hbel nq)
  obtain ⟨w1, hw1⟩ : ∃ w1, w1 = ((w.alloc (.cells (sC s) 51)).alloc (.cells (sC zS) 51)).drewN nq := ⟨_, rfl⟩
  rw [← hw1] at HS HB ⊢
  clear hw1 hsx hbel HF
  obtain ⟨n0, n1, n2, n3, n4, n5, n6, n7, n8, n9, n10, n11, n12⟩ := Blk.cells13 HS.out.b0
  obtain ⟨z0, z1, z2, z3, z4, z5, z6, z7, z8, z9, z10, z11, z12⟩ := Blk.cells13 HS.out.b1
  obtain ⟨f0, f1, f2, f3, f4, f5, f6, f7, f8, f9, f10, f11, f12⟩ := Blk.frozen13 HS.out.b1
  go_wp2_with fail
  refine (Tp.takeR hf hh _).mono ?_
  rintro e w2 ⟨rfl, hb⟩
  rw [HTF.out, show Tp.resV (18, ⟨D, N, M, i⟩, 0) = .tuple #[.agg #[.int .i64 18, .int .i64 D, .int .i64 N, .int .i64 M, .int .i64 i], .int .i64 (0 : Nat)] from rfl]
  have HS2 := Lib.hid (HS.out.below hb)
  have HB2 := Lib.hid (HB.out.trans (hb.mono HB.out.size))
  clear n0 n1 n2 n3 n4 n5 n6 n7 n8 n9 n10 n11 n12 z0 z1 z2 z3 z4 z5 z6 z7 z8 z9 z10 z11 z12 f0 f1 f2 f3 f4 f5 f6 f7 f8 f9 f10 f11 f12 hb HS HB
  go_upto_region 7 with fail
  have hx : Below w2.heap.size w2 (w2.alloc (.cells #[.int .i64 18, .int .i64 D, .int .i64 N, .int .i64 M, .int .i64 i] 58)) := (Below.refl _ _).alloc (Nat.le_refl _) _
  have HS3 := Lib.hid (HS2.out.below hx)
  have HB3 := Lib.hid (HB2.out.trans (hx.mono HB2.out.size))
  have HI3 := Lib.hid (Blk.new w2 58 #[.int .i64 18, .int .i64 D, .int .i64 N, .int .i64 M, .int .i64 i])
  have HG := Lib.hid (HS2.out.b1.lt)
  have HG3 := Lib.hid (HI3.out.lt)
  obtain ⟨w3, hw3⟩ : ∃ w3, w2.alloc (.cells #[.int .i64 18, .int .i64 D, .int .i64 N, .int .i64 M, .int .i64 i] 58) = w3 := ⟨_, rfl⟩
  rw [hw3] at HS3 HB3 HI3 HG3 ⊢
  generalize w2.heap.size = g at *
  clear hw3 hx HS2 HB2
  obtain ⟨n0, n1, n2, n3, n4, n5, n6, n7, n8, n9, n10, n11, n12⟩ := Blk.cells13 HS3.out.b0
  have i4 : w3.cell? ⟨g, 4, none⟩ = some (.int .i64 i) := HI3.out.cell 4
  have hbx := Blk.new w3 51 (sC s)
  have hxx : Below w3.heap.size w3 (w3.alloc (.cells (sC s) 51)) := (Below.refl _ _).alloc (Nat.le_refl _) _
  have hx0 : Below w3.heap.size w3 (w3.alloc (.cells (sC zS) 51)) := (Below.refl _ _).alloc (Nat.le_refl _) _
  have hSA := Sx.below HS3.out hx0
  have hIA := Blk.below HI3.out hx0 HG3.out
  have hS2 := Sx.below HS3.out hxx
  have hI2 := Blk.below HI3.out hxx HG3.out
  have hgl : w.heap.size + 1 < g := HG.out
  have hgl3 : g < w3.heap.size := HG3.out
  have HR := Lib.hid (show Rx w g w3.heap.size 18 D N M i s s (w3.alloc (.cells (sC s) 51)).drew from ⟨hS2.b0, hS2.b1, hI2, hbx, hgl, hgl3⟩)
  have HBW := Lib.hid (show Below w.heap.size w (w3.alloc (.cells (sC s) 51)).drew from (HB3.out.trans (hxx.mono HB3.out.size)).drew)
  have HL0 := Lib.hid (show K13e w.heap.size s w3 (w3.cell? ⟨g, 4, none⟩ = some (.int .i64 i)) from ⟨n0, n1, n2, n3, n4, n5, n6, n7, n8, n9, n10, n11, n12, i4⟩)
  have HL0d := Lib.hid (show K13e w.heap.size s (w3.drew) (w3.drew.cell? ⟨g, 4, none⟩ = some (.int .i64 i)) from ⟨n0, n1, n2, n3, n4, n5, n6, n7, n8, n9, n10, n11, n12, i4⟩)
  have HL1 := Lib.hid (show K13e w.heap.size s ((w3.alloc (.cells #[Value.int .u32 0, Value.int .u32 0, Value.int .u32 0, Value.int .u32 0, Value.int .u32 0, Value.int .u32 0, Value.int .u32 0, Value.int .u32 0, Value.int .u32 0, .bool false, .bool false, .bool false, .bool false] 51)).drew) ((w3.alloc (.cells #[Value.int .u32 0, Value.int .u32 0, Value.int .u32 0, Value.int .u32 0, Value.int .u32 0, Value.int .u32 0, Value.int .u32 0, Value.int .u32 0, Value.int .u32 0, .bool false, .bool false, .bool false, .bool false] 51)).drew.cell? ⟨g, 4, none⟩ = some (.int .i64 i)) from ⟨hSA.b0.cell 0, hSA.b0.cell 1, hSA.b0.cell 2, hSA.b0.cell 3, hSA.b0.cell 4, hSA.b0.cell 5, hSA.b0.cell 6, hSA.b0.cell 7, hSA.b0.cell 8, hSA.b0.cell 9, hSA.b0.cell 10, hSA.b0.cell 11, hSA.b0.cell 12, hIA.cell 4⟩)
  have HL3 := Lib.hid (show K13e w.heap.size s ((w3.alloc (.cells (sC s) 51)).drew) ((w3.alloc (.cells (sC s) 51)).drew.cell? ⟨g, 4, none⟩ = some (.int .i64 i)) from ⟨HR.out.b0.cell 0, HR.out.b0.cell 1, HR.out.b0.cell 2, HR.out.b0.cell 3, HR.out.b0.cell 4, HR.out.b0.cell 5, HR.out.b0.cell 6, HR.out.b0.cell 7, HR.out.b0.cell 8, HR.out.b0.cell 9, HR.out.b0.cell 10, HR.out.b0.cell 11, HR.out.b0.cell 12, HR.out.bi.cell 4⟩)
  clear hbx hxx hx0 hSA hIA hgl hgl3 hS2 hI2
  obtain ⟨imm, himm⟩ : ∃ imm, BitVec.ofInt 32 i = imm := ⟨_, rfl⟩
  obtain ⟨p2, hp2⟩ : ∃ p2, s.pc + 2#32 = p2 := ⟨_, rfl⟩
  have hw := wrap_ofInt i
  have hnp2 : IntKind.u32.wrap ((s.pc.toNat : Int) + 2) = ((s.pc + 2#32).toNat : Int) := by rw [IntKind.wrap_u32]; exact next_pc s.pc
  rw [himm] at hw
  rw [hp2] at hnp2
  have HIM := Lib.hid himm; have HP2 := Lib.hid hp2
  clear himm hp2
  go_region_held3 (fun w' => K13e w.heap.size s w' (w'.cell? ⟨g, 4, none⟩ = some (.int .i64 i))) (first | with_reducible exact HL0.out | with_reducible exact HL0d.out | with_reducible exact HL1.out | with_reducible exact HL3.out) (fail)
  clear HL0 HL0d HL1 HL3 n0 n1 n2 n3 n4 n5 n6 n7 n8 n9 n10 n11 n12 i4 HS3 HI3 HB3 HG HG3
  obtain ⟨w4, hw4⟩ : ∃ w4, (w3.alloc (.cells (sC s) 51)).drew = w4 := ⟨_, rfl⟩
  rw [hw4] at HR HBW
  simp only [sC] at hw4
  rw [hw4]
  clear hw4
  generalize w3.heap.size = g2 at *
  have i0 : w4.cell? ⟨g, 0, none⟩ = some (.int .i64 18) := HR.out.bi.cell 0
  have i1 : w4.cell? ⟨g, 1, none⟩ = some (.int .i64 D) := HR.out.bi.cell 1
  have i2 : w4.cell? ⟨g, 2, none⟩ = some (.int .i64 N) := HR.out.bi.cell 2
  have i3 : w4.cell? ⟨g, 3, none⟩ = some (.int .i64 M) := HR.out.bi.cell 3
  have rN := HR.out.b0.reg N hw0.n8
  have rM := HR.out.b0.reg M hw0.m8
  have hN2 : (N : Int) < 8 := by have := hw0.n8; omega
  have hM2 : (M : Int) < 8 := by have := hw0.m8; omega
  obtain ⟨D8, hD8'⟩ : ∃ D8, D % 8 = D8 := ⟨_, rfl⟩
  have hD8 : D8 < 8 := by omega
  have rD := HR.out.b0.reg D8 hD8
  have hD2 : (D8 : Int) < 8 := by omega
  have hdm : (D : Int).tmod 8 = (D8 : Int) := by rw [tmod8, hD8']
  have hdm2 : (D : Int) % 8 = (D8 : Int) := by omega
  clear hD8'
  have HDM := Lib.hid hdm2
  go_wp2_with fail
  go_quiet (fail)
  have HR5 := Lib.hid (HR.out.drewN nq)
  have HB5 := Lib.hid (below_drewN HBW.out nq)
  generalize w4.drewN nq = w5 at *
  clear i0 i1 i2 i3 rN rM rD HR HBW
  have i0 : w5.cell? ⟨g, 0, none⟩ = some (.int .i64 18) := HR5.out.bi.cell 0
  have i1 : w5.cell? ⟨g, 1, none⟩ = some (.int .i64 D) := HR5.out.bi.cell 1
  have i4 : w5.cell? ⟨g, 4, none⟩ = some (.int .i64 i) := HR5.out.bi.cell 4
  obtain ⟨n0, n1, n2, n3, n4, n5, n6, n7, n8, n9, n10, n11, n12⟩ := Blk.cells13 HR5.out.b0
  have g4' : IntKind.u32.wrap ((s.pc.toNat : Int) + 4) = ((s.pc + 4#32).toNat : Int) := by rw [IntKind.wrap_u32]; exact pc4 s.pc
  have g5' : IntKind.u32.wrap (((s.pc + 4#32).toNat : Int) + (imm.toNat : Int)) = ((s.pc + 4#32 + imm).toNat : Int) := by rw [IntKind.wrap_u32]; exact add_w _ _
  have g6' : IntKind.u32.wrap (((s.pc + 4#32 + imm).toNat : Int) + (imm.toNat : Int)) = ((s.pc + 4#32 + imm + imm).toNat : Int) := by rw [IntKind.wrap_u32]; exact add_w _ _
  have hpq : s.pc + 4#32 + imm + imm = s.pc + 4#32 + 2#32 * imm := by rw [BitVec.two_mul, BitVec.add_assoc]
  rw [hpq] at g6'
  obtain ⟨pf, hpf⟩ : ∃ pf, s.pc + 4#32 + 2#32 * imm = pf := ⟨_, rfl⟩
  rw [hpf] at g6'
  have HPF := Lib.hid hpf
  clear hpf hpq
  generalize s.pc + 4#32 + imm = p5 at g5' g6'
  generalize s.pc + 4#32 = p4 at g4' g5'
  have ub1 := bd s.pc; have ub2 := bd p4; have ub3 := bd p5; have ub4 := bd imm
  go_wp2_with fail
  refine (HH.out _).mono ?_
  rintro e w6 ⟨rfl, hb⟩
  have HR6 := Lib.hid (HR5.out.below hb)
  have HB6 := Lib.hid (HB5.out.trans (hb.mono HB5.out.size))
  clear hb i0 i1 i4 n0 n1 n2 n3 n4 n5 n6 n7 n8 n9 n10 n11 n12 HR5 HB5 HH
  have c8 : w6.cell? ⟨w.heap.size, 8, none⟩ = some (u s.pc) := HR6.out.b0.cell 8
  go_upto_region 50 with fail
  clear c8
  have HR7 := Lib.hid HR6.out
  have HU7 := Lib.hid (Upd.of_below HB6.out h.X)
  have HP7 := Lib.hid (PM.below HP.out HB6.out)
  clear HR6 HB6
  generalize w6 = w7 at *
  have n8 := HR7.out.bx.cell 8
  have f8 := HR7.out.bx.frozen 8
  have n8' : w7.cell? ⟨g2, 8, none⟩ = some (u s.pc) := n8
  go_upto_region 53 with fail
  clear n8 n8' f8
  have hlg := HR7.out.lg; have hlx := HR7.out.lx
  have hU := upd_set w7 g2 8 (u pf) (Upd.refl _ w7)
  have HR8 := Lib.hid (HR7.out.next (s.to pf) (blk_one HR7.out.bx 8 (u pf) rfl) hU)
  have HU8 := Lib.hid (upd_b HU7.out hU (by omega))
  have HP8 := Lib.hid (PM.upd HP7.out hU (fun k hk e => by have := HBB.out k hk; omega))
  obtain ⟨s8, hs8⟩ : ∃ s8, s.to pf = s8 := ⟨_, rfl⟩
  rw [hs8] at HR8
  have HS8 := Lib.hid hs8
  clear hs8 hU HR7 HU7 HP7 hlg hlx
  generalize w7.setCell ⟨g2, 8, none⟩ (u pf) = w9 at *
  obtain ⟨n0, n1, n2, n3, n4, n5, n6, n7, n8, n9, n10, n11, n12⟩ := Blk.cells13 HR8.out.bx
  obtain ⟨z0, z1, z2, z3, z4, z5, z6, z7, z8, z9, z10, z11, z12⟩ := Blk.cells13 HR8.out.b1
  obtain ⟨f0, f1, f2, f3, f4, f5, f6, f7, f8, f9, f10, f11, f12⟩ := Blk.frozen13 HR8.out.b1
  go_wp2_with fail
  clear n0 n1 n2 n3 n4 n5 n6 n7 n8 n9 n10 n11 n12 z0 z1 z2 z3 z4 z5 z6 z7 z8 z9 z10 z11 z12 f0 f1 f2 f3 f4 f5 f6 f7 f8 f9 f10 f11 f12
  obtain ⟨hB, hU⟩ := blk13 HR8.out.b1 s8
  have HL := Lib.hid (upd_b HU8.out hU (by omega))
  have HPL := Lib.hid (PM.upd (HP8.out) hU (fun k hk e => by have := HBB.out k hk; omega))
  obtain ⟨w8, hw8⟩ : ∃ w8, put13 w9 (w.heap.size + 1) s8 = w8 := ⟨_, rfl⟩
  rw [hw8] at hB HL HPL
  simp only [put13] at hw8
  rw [hw8]
  clear hw8 hU
  obtain ⟨n0, n1, n2, n3, n4, n5, n6, n7, n8, n9, n10, n11, n12⟩ := Blk.cells13 hB
  exact bodyPost_ret (v := .tuple #[sv s8, .bool false, .int .i64 0]) (by simp [results, Tryd.results31, go_sem, n0, n1, n2, n3, n4, n5, n6, n7, n8, n9, n10, n11, n12]) rfl ⟨by rw [← HS8.out, ← HPF.out, ← HIM.out]; exact br_yes HB18.out, HPL.out, HL.out⟩
set_option maxRecDepth 100000 in
set_option maxHeartbeats 2000000 in
theorem rst18f (s : S) (n0 : Nat) (h : Hd) (m : St) (w : World) (p : RP n0 h m w) (hf : Nat) (hh : hf < 65536) (hfe : fetchV m (s.pc.toNat : Int) = ((hf : Int), 0)) (D N M : Nat) (i : Int) (hw0 : Wi 18 D N M i) (htf : Tp.takeF 21 0 hf = (18, ⟨D, N, M, i⟩, 0)) (hb18 : holdsB D s = false) : Calls Tryd.prog 31 #[sv s, ptr h.r] w (RpEnd n0 h ((doS 18 D N M i s m).1, false, 0, m) w) := by
  have HTF := Lib.hid htf
  clear htf
  have hH := fun W => rholds D s W
  rw [hb18] at hH
  have HH := Lib.hid hH; have HB18 := Lib.hid hb18
  clear hH hb18
  have hX : ∀ k, h.X k → k < w.heap.size := fun k hk => (p.lt (Hd.XB hk)).2
  have hBB : ∀ k, h.B k → k < w.heap.size := fun k hk => (p.lt hk).2
  have hF := fun W p => MmR.fetch n0 h m W (s.pc.toNat : Int) (by omega) (bd s.pc) p
  rw [hfe] at hF
  have HX := Lib.hid hX; have HBB := Lib.hid hBB; have HP := Lib.hid p; have HF := Lib.hid hF
  clear hX hBB p hF hfe
  go_enter Tryd.func31, Tryd.ntmps31
  go_wp2_with fail
  obtain ⟨hsx, hbel⟩ := sx_new w s
  refine (HF.out _ (PM.below HP.out hbel)).mono ?_
  rintro e w1 ⟨rfl, nq, rfl⟩
  have HS := Lib.hid (hsx.drewN nq)
  have HB := Lib.hid (below_drewN hbel nq)
  obtain ⟨w1, hw1⟩ : ∃ w1, w1 = ((w.alloc (.cells (sC s) 51)).alloc (.cells (sC zS) 51)).drewN nq := ⟨_, rfl⟩
  rw [← hw1] at HS HB ⊢
  clear hw1 hsx hbel HF
  obtain ⟨n0, n1, n2, n3, n4, n5, n6, n7, n8, n9, n10, n11, n12⟩ := Blk.cells13 HS.out.b0
  obtain ⟨z0, z1, z2, z3, z4, z5, z6, z7, z8, z9, z10, z11, z12⟩ := Blk.cells13 HS.out.b1
  obtain ⟨f0, f1, f2, f3, f4, f5, f6, f7, f8, f9, f10, f11, f12⟩ := Blk.frozen13 HS.out.b1
  go_wp2_with fail
  refine (Tp.takeR hf hh _).mono ?_
  rintro e w2 ⟨rfl, hb⟩
  rw [HTF.out, show Tp.resV (18, ⟨D, N, M, i⟩, 0) = .tuple #[.agg #[.int .i64 18, .int .i64 D, .int .i64 N, .int .i64 M, .int .i64 i], .int .i64 (0 : Nat)] from rfl]
  have HS2 := Lib.hid (HS.out.below hb)
  have HB2 := Lib.hid (HB.out.trans (hb.mono HB.out.size))
  clear n0 n1 n2 n3 n4 n5 n6 n7 n8 n9 n10 n11 n12 z0 z1 z2 z3 z4 z5 z6 z7 z8 z9 z10 z11 z12 f0 f1 f2 f3 f4 f5 f6 f7 f8 f9 f10 f11 f12 hb HS HB
  go_upto_region 7 with fail
  have hx : Below w2.heap.size w2 (w2.alloc (.cells #[.int .i64 18, .int .i64 D, .int .i64 N, .int .i64 M, .int .i64 i] 58)) := (Below.refl _ _).alloc (Nat.le_refl _) _
  have HS3 := Lib.hid (HS2.out.below hx)
  have HB3 := Lib.hid (HB2.out.trans (hx.mono HB2.out.size))
  have HI3 := Lib.hid (Blk.new w2 58 #[.int .i64 18, .int .i64 D, .int .i64 N, .int .i64 M, .int .i64 i])
  have HG := Lib.hid (HS2.out.b1.lt)
  have HG3 := Lib.hid (HI3.out.lt)
  obtain ⟨w3, hw3⟩ : ∃ w3, w2.alloc (.cells #[.int .i64 18, .int .i64 D, .int .i64 N, .int .i64 M, .int .i64 i] 58) = w3 := ⟨_, rfl⟩
  rw [hw3] at HS3 HB3 HI3 HG3 ⊢
  generalize w2.heap.size = g at *
  clear hw3 hx HS2 HB2
  obtain ⟨n0, n1, n2, n3, n4, n5, n6, n7, n8, n9, n10, n11, n12⟩ := Blk.cells13 HS3.out.b0
  have i4 : w3.cell? ⟨g, 4, none⟩ = some (.int .i64 i) := HI3.out.cell 4
  have hbx := Blk.new w3 51 (sC s)
  have hxx : Below w3.heap.size w3 (w3.alloc (.cells (sC s) 51)) := (Below.refl _ _).alloc (Nat.le_refl _) _
  have hx0 : Below w3.heap.size w3 (w3.alloc (.cells (sC zS) 51)) := (Below.refl _ _).alloc (Nat.le_refl _) _
  have hSA := Sx.below HS3.out hx0
  have hIA := Blk.below HI3.out hx0 HG3.out
  have hS2 := Sx.below HS3.out hxx
  have hI2 := Blk.below HI3.out hxx HG3.out
  have hgl : w.heap.size + 1 < g := HG.out
  have hgl3 : g < w3.heap.size := HG3.out
  have HR := Lib.hid (show Rx w g w3.heap.size 18 D N M i s s (w3.alloc (.cells (sC s) 51)).drew from ⟨hS2.b0, hS2.b1, hI2, hbx, hgl, hgl3⟩)
  have HBW := Lib.hid (show Below w.heap.size w (w3.alloc (.cells (sC s) 51)).drew from (HB3.out.trans (hxx.mono HB3.out.size)).drew)
  have HL0 := Lib.hid (show K13e w.heap.size s w3 (w3.cell? ⟨g, 4, none⟩ = some (.int .i64 i)) from ⟨n0, n1, n2, n3, n4, n5, n6, n7, n8, n9, n10, n11, n12, i4⟩)
  have HL0d := Lib.hid (show K13e w.heap.size s (w3.drew) (w3.drew.cell? ⟨g, 4, none⟩ = some (.int .i64 i)) from ⟨n0, n1, n2, n3, n4, n5, n6, n7, n8, n9, n10, n11, n12, i4⟩)
  have HL1 := Lib.hid (show K13e w.heap.size s ((w3.alloc (.cells #[Value.int .u32 0, Value.int .u32 0, Value.int .u32 0, Value.int .u32 0, Value.int .u32 0, Value.int .u32 0, Value.int .u32 0, Value.int .u32 0, Value.int .u32 0, .bool false, .bool false, .bool false, .bool false] 51)).drew) ((w3.alloc (.cells #[Value.int .u32 0, Value.int .u32 0, Value.int .u32 0, Value.int .u32 0, Value.int .u32 0, Value.int .u32 0, Value.int .u32 0, Value.int .u32 0, Value.int .u32 0, .bool false, .bool false, .bool false, .bool false] 51)).drew.cell? ⟨g, 4, none⟩ = some (.int .i64 i)) from ⟨hSA.b0.cell 0, hSA.b0.cell 1, hSA.b0.cell 2, hSA.b0.cell 3, hSA.b0.cell 4, hSA.b0.cell 5, hSA.b0.cell 6, hSA.b0.cell 7, hSA.b0.cell 8, hSA.b0.cell 9, hSA.b0.cell 10, hSA.b0.cell 11, hSA.b0.cell 12, hIA.cell 4⟩)
  have HL3 := Lib.hid (show K13e w.heap.size s ((w3.alloc (.cells (sC s) 51)).drew) ((w3.alloc (.cells (sC s) 51)).drew.cell? ⟨g, 4, none⟩ = some (.int .i64 i)) from ⟨HR.out.b0.cell 0, HR.out.b0.cell 1, HR.out.b0.cell 2, HR.out.b0.cell 3, HR.out.b0.cell 4, HR.out.b0.cell 5, HR.out.b0.cell 6, HR.out.b0.cell 7, HR.out.b0.cell 8, HR.out.b0.cell 9, HR.out.b0.cell 10, HR.out.b0.cell 11, HR.out.b0.cell 12, HR.out.bi.cell 4⟩)
  clear hbx hxx hx0 hSA hIA hgl hgl3 hS2 hI2
  obtain ⟨imm, himm⟩ : ∃ imm, BitVec.ofInt 32 i = imm := ⟨_, rfl⟩
  obtain ⟨p2, hp2⟩ : ∃ p2, s.pc + 2#32 = p2 := ⟨_, rfl⟩
  have hw := wrap_ofInt i
  have hnp2 : IntKind.u32.wrap ((s.pc.toNat : Int) + 2) = ((s.pc + 2#32).toNat : Int) := by rw [IntKind.wrap_u32]; exact next_pc s.pc
  rw [himm] at hw
  rw [hp2] at hnp2
  have HIM := Lib.hid himm; have HP2 := Lib.hid hp2
  clear himm hp2
  go_region_held3 (fun w' => K13e w.heap.size s w' (w'.cell? ⟨g, 4, none⟩ = some (.int .i64 i))) (first | with_reducible exact HL0.out | with_reducible exact HL0d.out | with_reducible exact HL1.out | with_reducible exact HL3.out) (fail)
  clear HL0 HL0d HL1 HL3 n0 n1 n2 n3 n4 n5 n6 n7 n8 n9 n10 n11 n12 i4 HS3 HI3 HB3 HG HG3
  obtain ⟨w4, hw4⟩ : ∃ w4, (w3.alloc (.cells (sC s) 51)).drew = w4 := ⟨_, rfl⟩
  rw [hw4] at HR HBW
  simp only [sC] at hw4
  rw [hw4]
  clear hw4
  generalize w3.heap.size = g2 at *
  have i0 : w4.cell? ⟨g, 0, none⟩ = some (.int .i64 18) := HR.out.bi.cell 0
  have i1 : w4.cell? ⟨g, 1, none⟩ = some (.int .i64 D) := HR.out.bi.cell 1
  have i2 : w4.cell? ⟨g, 2, none⟩ = some (.int .i64 N) := HR.out.bi.cell 2
  have i3 : w4.cell? ⟨g, 3, none⟩ = some (.int .i64 M) := HR.out.bi.cell 3
  have rN := HR.out.b0.reg N hw0.n8
  have rM := HR.out.b0.reg M hw0.m8
  have hN2 : (N : Int) < 8 := by have := hw0.n8; omega
  have hM2 : (M : Int) < 8 := by have := hw0.m8; omega
  obtain ⟨D8, hD8'⟩ : ∃ D8, D % 8 = D8 := ⟨_, rfl⟩
  have hD8 : D8 < 8 := by omega
  have rD := HR.out.b0.reg D8 hD8
  have hD2 : (D8 : Int) < 8 := by omega
  have hdm : (D : Int).tmod 8 = (D8 : Int) := by rw [tmod8, hD8']
  have hdm2 : (D : Int) % 8 = (D8 : Int) := by omega
  clear hD8'
  have HDM := Lib.hid hdm2
  go_wp2_with fail
  go_quiet (fail)
  have HR5 := Lib.hid (HR.out.drewN nq)
  have HB5 := Lib.hid (below_drewN HBW.out nq)
  generalize w4.drewN nq = w5 at *
  clear i0 i1 i2 i3 rN rM rD HR HBW
  have i0 : w5.cell? ⟨g, 0, none⟩ = some (.int .i64 18) := HR5.out.bi.cell 0
  have i1 : w5.cell? ⟨g, 1, none⟩ = some (.int .i64 D) := HR5.out.bi.cell 1
  have i4 : w5.cell? ⟨g, 4, none⟩ = some (.int .i64 i) := HR5.out.bi.cell 4
  obtain ⟨n0, n1, n2, n3, n4, n5, n6, n7, n8, n9, n10, n11, n12⟩ := Blk.cells13 HR5.out.b0
  go_wp2_with fail
  refine (HH.out _).mono ?_
  rintro e w6 ⟨rfl, hb⟩
  have HR6 := Lib.hid (HR5.out.below hb)
  have HB6 := Lib.hid (HB5.out.trans (hb.mono HB5.out.size))
  clear hb i0 i1 i4 n0 n1 n2 n3 n4 n5 n6 n7 n8 n9 n10 n11 n12 HR5 HB5 HH
  have c8 : w6.cell? ⟨w.heap.size, 8, none⟩ = some (u s.pc) := HR6.out.b0.cell 8
  go_upto_region 50 with fail
  clear c8
  have HR7 := Lib.hid HR6.out
  have HU7 := Lib.hid (Upd.of_below HB6.out h.X)
  have HP7 := Lib.hid (PM.below HP.out HB6.out)
  clear HR6 HB6
  generalize w6 = w7 at *
  have n8 := HR7.out.bx.cell 8
  have f8 := HR7.out.bx.frozen 8
  have n8' : w7.cell? ⟨g2, 8, none⟩ = some (u s.pc) := n8
  go_upto_region 53 with fail
  clear n8 n8' f8
  have hlg := HR7.out.lg; have hlx := HR7.out.lx
  have hU := upd_set w7 g2 8 (u p2) (Upd.refl _ w7)
  have HR8 := Lib.hid (HR7.out.next (s.to p2) (blk_one HR7.out.bx 8 (u p2) rfl) hU)
  have HU8 := Lib.hid (upd_b HU7.out hU (by omega))
  have HP8 := Lib.hid (PM.upd HP7.out hU (fun k hk e => by have := HBB.out k hk; omega))
  obtain ⟨s8, hs8⟩ : ∃ s8, s.to p2 = s8 := ⟨_, rfl⟩
  rw [hs8] at HR8
  have HS8 := Lib.hid hs8
  clear hs8 hU HR7 HU7 HP7 hlg hlx
  generalize w7.setCell ⟨g2, 8, none⟩ (u p2) = w9 at *
  obtain ⟨n0, n1, n2, n3, n4, n5, n6, n7, n8, n9, n10, n11, n12⟩ := Blk.cells13 HR8.out.bx
  obtain ⟨z0, z1, z2, z3, z4, z5, z6, z7, z8, z9, z10, z11, z12⟩ := Blk.cells13 HR8.out.b1
  obtain ⟨f0, f1, f2, f3, f4, f5, f6, f7, f8, f9, f10, f11, f12⟩ := Blk.frozen13 HR8.out.b1
  go_wp2_with fail
  clear n0 n1 n2 n3 n4 n5 n6 n7 n8 n9 n10 n11 n12 z0 z1 z2 z3 z4 z5 z6 z7 z8 z9 z10 z11 z12 f0 f1 f2 f3 f4 f5 f6 f7 f8 f9 f10 f11 f12
  obtain ⟨hB, hU⟩ := blk13 HR8.out.b1 s8
  have HL := Lib.hid (upd_b HU8.out hU (by omega))
  have HPL := Lib.hid (PM.upd (HP8.out) hU (fun k hk e => by have := HBB.out k hk; omega))
  obtain ⟨w8, hw8⟩ : ∃ w8, put13 w9 (w.heap.size + 1) s8 = w8 := ⟨_, rfl⟩
  rw [hw8] at hB HL HPL
  simp only [put13] at hw8
  rw [hw8]
  clear hw8 hU
  obtain ⟨n0, n1, n2, n3, n4, n5, n6, n7, n8, n9, n10, n11, n12⟩ := Blk.cells13 hB
  exact bodyPost_ret (v := .tuple #[sv s8, .bool false, .int .i64 0]) (by simp [results, Tryd.results31, go_sem, n0, n1, n2, n3, n4, n5, n6, n7, n8, n9, n10, n11, n12]) rfl ⟨by rw [← HS8.out, ← HP2.out]; exact br_no HB18.out, HPL.out, HL.out⟩
set_option maxRecDepth 100000 in
set_option maxHeartbeats 2000000 in
theorem rst19 (s : S) (n0 : Nat) (h : Hd) (m : St) (w : World) (p : RP n0 h m w) (hf : Nat) (hh : hf < 65536) (hfe : fetchV m (s.pc.toNat : Int) = ((hf : Int), 0)) (D N M : Nat) (i : Int) (hw0 : Wi 19 D N M i) (htf : Tp.takeF 21 0 hf = (19, ⟨D, N, M, i⟩, 0)) : Calls Tryd.prog 31 #[sv s, ptr h.r] w (RpEnd n0 h ((doS 19 D N M i s m).1, false, 0, m) w) := by
  have HTF := Lib.hid htf
  clear htf
  have hX : ∀ k, h.X k → k < w.heap.size := fun k hk => (p.lt (Hd.XB hk)).2
  have hBB : ∀ k, h.B k → k < w.heap.size := fun k hk => (p.lt hk).2
  have hF := fun W p => MmR.fetch n0 h m W (s.pc.toNat : Int) (by omega) (bd s.pc) p
  rw [hfe] at hF
  have HX := Lib.hid hX; have HBB := Lib.hid hBB; have HP := Lib.hid p; have HF := Lib.hid hF
  clear hX hBB p hF hfe
  go_enter Tryd.func31, Tryd.ntmps31
  go_wp2_with fail
  obtain ⟨hsx, hbel⟩ := sx_new w s
  refine (HF.out _ (PM.below HP.out hbel)).mono ?_
  rintro e w1 ⟨rfl, nq, rfl⟩
  have HS := Lib.hid (hsx.drewN nq)
  have HB := Lib.hid (below_drewN hbel nq)
  obtain ⟨w1, hw1⟩ : ∃ w1, w1 = ((w.alloc (.cells (sC s) 51)).alloc (.cells (sC zS) 51)).drewN nq := ⟨_, rfl⟩
  rw [← hw1] at HS HB ⊢
  clear hw1 hsx hbel HF
  obtain ⟨n0, n1, n2, n3, n4, n5, n6, n7, n8, n9, n10, n11, n12⟩ := Blk.cells13 HS.out.b0
  obtain ⟨z0, z1, z2, z3, z4, z5, z6, z7, z8, z9, z10, z11, z12⟩ := Blk.cells13 HS.out.b1
  obtain ⟨f0, f1, f2, f3, f4, f5, f6, f7, f8, f9, f10, f11, f12⟩ := Blk.frozen13 HS.out.b1
  go_wp2_with fail
  refine (Tp.takeR hf hh _).mono ?_
  rintro e w2 ⟨rfl, hb⟩
  rw [HTF.out, show Tp.resV (19, ⟨D, N, M, i⟩, 0) = .tuple #[.agg #[.int .i64 19, .int .i64 D, .int .i64 N, .int .i64 M, .int .i64 i], .int .i64 (0 : Nat)] from rfl]
  have HS2 := Lib.hid (HS.out.below hb)
  have HB2 := Lib.hid (HB.out.trans (hb.mono HB.out.size))
  clear n0 n1 n2 n3 n4 n5 n6 n7 n8 n9 n10 n11 n12 z0 z1 z2 z3 z4 z5 z6 z7 z8 z9 z10 z11 z12 f0 f1 f2 f3 f4 f5 f6 f7 f8 f9 f10 f11 f12 hb HS HB
  go_upto_region 7 with fail
  have hx : Below w2.heap.size w2 (w2.alloc (.cells #[.int .i64 19, .int .i64 D, .int .i64 N, .int .i64 M, .int .i64 i] 58)) := (Below.refl _ _).alloc (Nat.le_refl _) _
  have HS3 := Lib.hid (HS2.out.below hx)
  have HB3 := Lib.hid (HB2.out.trans (hx.mono HB2.out.size))
  have HI3 := Lib.hid (Blk.new w2 58 #[.int .i64 19, .int .i64 D, .int .i64 N, .int .i64 M, .int .i64 i])
  have HG := Lib.hid (HS2.out.b1.lt)
  have HG3 := Lib.hid (HI3.out.lt)
  obtain ⟨w3, hw3⟩ : ∃ w3, w2.alloc (.cells #[.int .i64 19, .int .i64 D, .int .i64 N, .int .i64 M, .int .i64 i] 58) = w3 := ⟨_, rfl⟩
  rw [hw3] at HS3 HB3 HI3 HG3 ⊢
  generalize w2.heap.size = g at *
  clear hw3 hx HS2 HB2
  obtain ⟨n0, n1, n2, n3, n4, n5, n6, n7, n8, n9, n10, n11, n12⟩ := Blk.cells13 HS3.out.b0
  have i4 : w3.cell? ⟨g, 4, none⟩ = some (.int .i64 i) := HI3.out.cell 4
  have hbx := Blk.new w3 51 (sC s)
  have hxx : Below w3.heap.size w3 (w3.alloc (.cells (sC s) 51)) := (Below.refl _ _).alloc (Nat.le_refl _) _
  have hx0 : Below w3.heap.size w3 (w3.alloc (.cells (sC zS) 51)) := (Below.refl _ _).alloc (Nat.le_refl _) _
  have hSA := Sx.below HS3.out hx0
  have hIA := Blk.below HI3.out hx0 HG3.out
  have hS2 := Sx.below HS3.out hxx
  have hI2 := Blk.below HI3.out hxx HG3.out
  have hgl : w.heap.size + 1 < g := HG.out
  have hgl3 : g < w3.heap.size := HG3.out
  have HR := Lib.hid (show Rx w g w3.heap.size 19 D N M i s s (w3.alloc (.cells (sC s) 51)).drew from ⟨hS2.b0, hS2.b1, hI2, hbx, hgl, hgl3⟩)
  have HBW := Lib.hid (show Below w.heap.size w (w3.alloc (.cells (sC s) 51)).drew from (HB3.out.trans (hxx.mono HB3.out.size)).drew)
  have HL0 := Lib.hid (show K13e w.heap.size s w3 (w3.cell? ⟨g, 4, none⟩ = some (.int .i64 i)) from ⟨n0, n1, n2, n3, n4, n5, n6, n7, n8, n9, n10, n11, n12, i4⟩)
  have HL0d := Lib.hid (show K13e w.heap.size s (w3.drew) (w3.drew.cell? ⟨g, 4, none⟩ = some (.int .i64 i)) from ⟨n0, n1, n2, n3, n4, n5, n6, n7, n8, n9, n10, n11, n12, i4⟩)
  have HL1 := Lib.hid (show K13e w.heap.size s ((w3.alloc (.cells #[Value.int .u32 0, Value.int .u32 0, Value.int .u32 0, Value.int .u32 0, Value.int .u32 0, Value.int .u32 0, Value.int .u32 0, Value.int .u32 0, Value.int .u32 0, .bool false, .bool false, .bool false, .bool false] 51)).drew) ((w3.alloc (.cells #[Value.int .u32 0, Value.int .u32 0, Value.int .u32 0, Value.int .u32 0, Value.int .u32 0, Value.int .u32 0, Value.int .u32 0, Value.int .u32 0, Value.int .u32 0, .bool false, .bool false, .bool false, .bool false] 51)).drew.cell? ⟨g, 4, none⟩ = some (.int .i64 i)) from ⟨hSA.b0.cell 0, hSA.b0.cell 1, hSA.b0.cell 2, hSA.b0.cell 3, hSA.b0.cell 4, hSA.b0.cell 5, hSA.b0.cell 6, hSA.b0.cell 7, hSA.b0.cell 8, hSA.b0.cell 9, hSA.b0.cell 10, hSA.b0.cell 11, hSA.b0.cell 12, hIA.cell 4⟩)
  have HL3 := Lib.hid (show K13e w.heap.size s ((w3.alloc (.cells (sC s) 51)).drew) ((w3.alloc (.cells (sC s) 51)).drew.cell? ⟨g, 4, none⟩ = some (.int .i64 i)) from ⟨HR.out.b0.cell 0, HR.out.b0.cell 1, HR.out.b0.cell 2, HR.out.b0.cell 3, HR.out.b0.cell 4, HR.out.b0.cell 5, HR.out.b0.cell 6, HR.out.b0.cell 7, HR.out.b0.cell 8, HR.out.b0.cell 9, HR.out.b0.cell 10, HR.out.b0.cell 11, HR.out.b0.cell 12, HR.out.bi.cell 4⟩)
  clear hbx hxx hx0 hSA hIA hgl hgl3 hS2 hI2
  obtain ⟨imm, himm⟩ : ∃ imm, BitVec.ofInt 32 i = imm := ⟨_, rfl⟩
  obtain ⟨p2, hp2⟩ : ∃ p2, s.pc + 2#32 = p2 := ⟨_, rfl⟩
  have hw := wrap_ofInt i
  have hnp2 : IntKind.u32.wrap ((s.pc.toNat : Int) + 2) = ((s.pc + 2#32).toNat : Int) := by rw [IntKind.wrap_u32]; exact next_pc s.pc
  rw [himm] at hw
  rw [hp2] at hnp2
  have HIM := Lib.hid himm; have HP2 := Lib.hid hp2
  clear himm hp2
  go_region_held3 (fun w' => K13e w.heap.size s w' (w'.cell? ⟨g, 4, none⟩ = some (.int .i64 i))) (first | with_reducible exact HL0.out | with_reducible exact HL0d.out | with_reducible exact HL1.out | with_reducible exact HL3.out) (fail)
  clear HL0 HL0d HL1 HL3 n0 n1 n2 n3 n4 n5 n6 n7 n8 n9 n10 n11 n12 i4 HS3 HI3 HB3 HG HG3
  obtain ⟨w4, hw4⟩ : ∃ w4, (w3.alloc (.cells (sC s) 51)).drew = w4 := ⟨_, rfl⟩
  rw [hw4] at HR HBW
  simp only [sC] at hw4
  rw [hw4]
  clear hw4
  generalize w3.heap.size = g2 at *
  have i0 : w4.cell? ⟨g, 0, none⟩ = some (.int .i64 19) := HR.out.bi.cell 0
  have i1 : w4.cell? ⟨g, 1, none⟩ = some (.int .i64 D) := HR.out.bi.cell 1
  have i2 : w4.cell? ⟨g, 2, none⟩ = some (.int .i64 N) := HR.out.bi.cell 2
  have i3 : w4.cell? ⟨g, 3, none⟩ = some (.int .i64 M) := HR.out.bi.cell 3
  have rN := HR.out.b0.reg N hw0.n8
  have rM := HR.out.b0.reg M hw0.m8
  have hN2 : (N : Int) < 8 := by have := hw0.n8; omega
  have hM2 : (M : Int) < 8 := by have := hw0.m8; omega
  have hD8 : D < 8 := hw0.d8 (by decide)
  have rD := HR.out.b0.reg D hD8
  have hD2 : (D : Int) < 8 := by omega
  have hdm : (D : Int).tmod 8 = (D : Int) := by rw [tmod8, Nat.mod_eq_of_lt hD8]
  have hdm2 : (D : Int) % 8 = (D : Int) := by omega
  have HDM := Lib.hid hdm2
  go_wp2_with fail
  go_quiet (fail)
  have HR5 := Lib.hid (HR.out.drewN nq)
  have HB5 := Lib.hid (below_drewN HBW.out nq)
  generalize w4.drewN nq = w5 at *
  clear i0 i1 i2 i3 rN rM rD HR HBW
  have i0 : w5.cell? ⟨g, 0, none⟩ = some (.int .i64 19) := HR5.out.bi.cell 0
  have i1 : w5.cell? ⟨g, 1, none⟩ = some (.int .i64 D) := HR5.out.bi.cell 1
  have i4 : w5.cell? ⟨g, 4, none⟩ = some (.int .i64 i) := HR5.out.bi.cell 4
  obtain ⟨n0, n1, n2, n3, n4, n5, n6, n7, n8, n9, n10, n11, n12⟩ := Blk.cells13 HR5.out.b0
  have HR7 := Lib.hid HR5.out
  have HU7 := Lib.hid (Upd.of_below HB5.out h.X)
  have HP7 := Lib.hid (PM.below HP.out HB5.out)
  go_upto_region 50 with fail
  clear i0 i1 i4 n0 n1 n2 n3 n4 n5 n6 n7 n8 n9 n10 n11 n12 HR5 HB5
  generalize w5 = w7 at *
  have n8 := HR7.out.bx.cell 8
  have f8 := HR7.out.bx.frozen 8
  have n8' : w7.cell? ⟨g2, 8, none⟩ = some (u s.pc) := n8
  go_upto_region 53 with fail
  clear n8 n8' f8
  have hlg := HR7.out.lg; have hlx := HR7.out.lx
  have hU := upd_set w7 g2 8 (u p2) (Upd.refl _ w7)
  have HR8 := Lib.hid (HR7.out.next (s.to p2) (blk_one HR7.out.bx 8 (u p2) rfl) hU)
  have HU8 := Lib.hid (upd_b HU7.out hU (by omega))
  have HP8 := Lib.hid (PM.upd HP7.out hU (fun k hk e => by have := HBB.out k hk; omega))
  obtain ⟨s8, hs8⟩ : ∃ s8, s.to p2 = s8 := ⟨_, rfl⟩
  rw [hs8] at HR8
  have HS8 := Lib.hid hs8
  clear hs8 hU HR7 HU7 HP7 hlg hlx
  generalize w7.setCell ⟨g2, 8, none⟩ (u p2) = w9 at *
  obtain ⟨n0, n1, n2, n3, n4, n5, n6, n7, n8, n9, n10, n11, n12⟩ := Blk.cells13 HR8.out.bx
  obtain ⟨z0, z1, z2, z3, z4, z5, z6, z7, z8, z9, z10, z11, z12⟩ := Blk.cells13 HR8.out.b1
  obtain ⟨f0, f1, f2, f3, f4, f5, f6, f7, f8, f9, f10, f11, f12⟩ := Blk.frozen13 HR8.out.b1
  go_wp2_with fail
  clear n0 n1 n2 n3 n4 n5 n6 n7 n8 n9 n10 n11 n12 z0 z1 z2 z3 z4 z5 z6 z7 z8 z9 z10 z11 z12 f0 f1 f2 f3 f4 f5 f6 f7 f8 f9 f10 f11 f12
  obtain ⟨hB, hU⟩ := blk13 HR8.out.b1 s8
  have HL := Lib.hid (upd_b HU8.out hU (by omega))
  have HPL := Lib.hid (PM.upd (HP8.out) hU (fun k hk e => by have := HBB.out k hk; omega))
  obtain ⟨w8, hw8⟩ : ∃ w8, put13 w9 (w.heap.size + 1) s8 = w8 := ⟨_, rfl⟩
  rw [hw8] at hB HL HPL
  simp only [put13] at hw8
  rw [hw8]
  clear hw8 hU
  obtain ⟨n0, n1, n2, n3, n4, n5, n6, n7, n8, n9, n10, n11, n12⟩ := Blk.cells13 hB
  exact bodyPost_ret (v := .tuple #[sv s8, .bool false, .int .i64 0]) (by simp [results, Tryd.results31, go_sem, n0, n1, n2, n3, n4, n5, n6, n7, n8, n9, n10, n11, n12]) rfl ⟨by rw [← HS8.out, ← HP2.out]; rfl, HPL.out, HL.out⟩
set_option maxRecDepth 100000 in
set_option maxHeartbeats 2000000 in
theorem rst20 (s : S) (n0 : Nat) (h : Hd) (m : St) (w : World) (p : RP n0 h m w) (hf : Nat) (hh : hf < 65536) (hfe : fetchV m (s.pc.toNat : Int) = ((hf : Int), 0)) (D N M : Nat) (i : Int) (hw0 : Wi 20 D N M i) (htf : Tp.takeF 21 0 hf = (20, ⟨D, N, M, i⟩, 0)) : Calls Tryd.prog 31 #[sv s, ptr h.r] w (RpEnd n0 h (s, true, 0, m) w) := by
  have HTF := Lib.hid htf
  clear htf
  have hX : ∀ k, h.X k → k < w.heap.size := fun k hk => (p.lt (Hd.XB hk)).2
  have hBB : ∀ k, h.B k → k < w.heap.size := fun k hk => (p.lt hk).2
  have hF := fun W p => MmR.fetch n0 h m W (s.pc.toNat : Int) (by omega) (bd s.pc) p
  rw [hfe] at hF
  have HX := Lib.hid hX; have HBB := Lib.hid hBB; have HP := Lib.hid p; have HF := Lib.hid hF
  clear hX hBB p hF hfe
  go_enter Tryd.func31, Tryd.ntmps31
  go_wp2_with fail
  obtain ⟨hsx, hbel⟩ := sx_new w s
  refine (HF.out _ (PM.below HP.out hbel)).mono ?_
  rintro e w1 ⟨rfl, nq, rfl⟩
  have HS := Lib.hid (hsx.drewN nq)
  have HB := Lib.hid (below_drewN hbel nq)
  obtain ⟨w1, hw1⟩ : ∃ w1, w1 = ((w.alloc (.cells (sC s) 51)).alloc (.cells (sC zS) 51)).drewN nq := ⟨_, rfl⟩
  rw [← hw1] at HS HB ⊢
  clear hw1 hsx hbel HF
  obtain ⟨n0, n1, n2, n3, n4, n5, n6, n7, n8, n9, n10, n11, n12⟩ := Blk.cells13 HS.out.b0
  obtain ⟨z0, z1, z2, z3, z4, z5, z6, z7, z8, z9, z10, z11, z12⟩ := Blk.cells13 HS.out.b1
  obtain ⟨f0, f1, f2, f3, f4, f5, f6, f7, f8, f9, f10, f11, f12⟩ := Blk.frozen13 HS.out.b1
  go_wp2_with fail
  refine (Tp.takeR hf hh _).mono ?_
  rintro e w2 ⟨rfl, hb⟩
  rw [HTF.out, show Tp.resV (20, ⟨D, N, M, i⟩, 0) = .tuple #[.agg #[.int .i64 20, .int .i64 D, .int .i64 N, .int .i64 M, .int .i64 i], .int .i64 (0 : Nat)] from rfl]
  have HS2 := Lib.hid (HS.out.below hb)
  have HB2 := Lib.hid (HB.out.trans (hb.mono HB.out.size))
  clear n0 n1 n2 n3 n4 n5 n6 n7 n8 n9 n10 n11 n12 z0 z1 z2 z3 z4 z5 z6 z7 z8 z9 z10 z11 z12 f0 f1 f2 f3 f4 f5 f6 f7 f8 f9 f10 f11 f12 hb HS HB
  go_upto_region 7 with fail
  have hx : Below w2.heap.size w2 (w2.alloc (.cells #[.int .i64 20, .int .i64 D, .int .i64 N, .int .i64 M, .int .i64 i] 58)) := (Below.refl _ _).alloc (Nat.le_refl _) _
  have HS3 := Lib.hid (HS2.out.below hx)
  have HB3 := Lib.hid (HB2.out.trans (hx.mono HB2.out.size))
  have HI3 := Lib.hid (Blk.new w2 58 #[.int .i64 20, .int .i64 D, .int .i64 N, .int .i64 M, .int .i64 i])
  have HG := Lib.hid (HS2.out.b1.lt)
  have HG3 := Lib.hid (HI3.out.lt)
  obtain ⟨w3, hw3⟩ : ∃ w3, w2.alloc (.cells #[.int .i64 20, .int .i64 D, .int .i64 N, .int .i64 M, .int .i64 i] 58) = w3 := ⟨_, rfl⟩
  rw [hw3] at HS3 HB3 HI3 HG3 ⊢
  generalize w2.heap.size = g at *
  clear hw3 hx HS2 HB2
  obtain ⟨n0, n1, n2, n3, n4, n5, n6, n7, n8, n9, n10, n11, n12⟩ := Blk.cells13 HS3.out.b0
  have i4 : w3.cell? ⟨g, 4, none⟩ = some (.int .i64 i) := HI3.out.cell 4
  have hbx := Blk.new w3 51 (sC s)
  have hxx : Below w3.heap.size w3 (w3.alloc (.cells (sC s) 51)) := (Below.refl _ _).alloc (Nat.le_refl _) _
  have hx0 : Below w3.heap.size w3 (w3.alloc (.cells (sC zS) 51)) := (Below.refl _ _).alloc (Nat.le_refl _) _
  have hSA := Sx.below HS3.out hx0
  have hIA := Blk.below HI3.out hx0 HG3.out
  have hS2 := Sx.below HS3.out hxx
  have hI2 := Blk.below HI3.out hxx HG3.out
  have hgl : w.heap.size + 1 < g := HG.out
  have hgl3 : g < w3.heap.size := HG3.out
  have HR := Lib.hid (show Rx w g w3.heap.size 20 D N M i s s (w3.alloc (.cells (sC s) 51)).drew from ⟨hS2.b0, hS2.b1, hI2, hbx, hgl, hgl3⟩)
  have HBW := Lib.hid (show Below w.heap.size w (w3.alloc (.cells (sC s) 51)).drew from (HB3.out.trans (hxx.mono HB3.out.size)).drew)
  have HL0 := Lib.hid (show K13e w.heap.size s w3 (w3.cell? ⟨g, 4, none⟩ = some (.int .i64 i)) from ⟨n0, n1, n2, n3, n4, n5, n6, n7, n8, n9, n10, n11, n12, i4⟩)
  have HL0d := Lib.hid (show K13e w.heap.size s (w3.drew) (w3.drew.cell? ⟨g, 4, none⟩ = some (.int .i64 i)) from ⟨n0, n1, n2, n3, n4, n5, n6, n7, n8, n9, n10, n11, n12, i4⟩)
  have HL1 := Lib.hid (show K13e w.heap.size s ((w3.alloc (.cells #[Value.int .u32 0, Value.int .u32 0, Value.int .u32 0, Value.int .u32 0, Value.int .u32 0, Value.int .u32 0, Value.int .u32 0, Value.int .u32 0, Value.int .u32 0, .bool false, .bool false, .bool false, .bool false] 51)).drew) ((w3.alloc (.cells #[Value.int .u32 0, Value.int .u32 0, Value.int .u32 0, Value.int .u32 0, Value.int .u32 0, Value.int .u32 0, Value.int .u32 0, Value.int .u32 0, Value.int .u32 0, .bool false, .bool false, .bool false, .bool false] 51)).drew.cell? ⟨g, 4, none⟩ = some (.int .i64 i)) from ⟨hSA.b0.cell 0, hSA.b0.cell 1, hSA.b0.cell 2, hSA.b0.cell 3, hSA.b0.cell 4, hSA.b0.cell 5, hSA.b0.cell 6, hSA.b0.cell 7, hSA.b0.cell 8, hSA.b0.cell 9, hSA.b0.cell 10, hSA.b0.cell 11, hSA.b0.cell 12, hIA.cell 4⟩)
  have HL3 := Lib.hid (show K13e w.heap.size s ((w3.alloc (.cells (sC s) 51)).drew) ((w3.alloc (.cells (sC s) 51)).drew.cell? ⟨g, 4, none⟩ = some (.int .i64 i)) from ⟨HR.out.b0.cell 0, HR.out.b0.cell 1, HR.out.b0.cell 2, HR.out.b0.cell 3, HR.out.b0.cell 4, HR.out.b0.cell 5, HR.out.b0.cell 6, HR.out.b0.cell 7, HR.out.b0.cell 8, HR.out.b0.cell 9, HR.out.b0.cell 10, HR.out.b0.cell 11, HR.out.b0.cell 12, HR.out.bi.cell 4⟩)
  clear hbx hxx hx0 hSA hIA hgl hgl3 hS2 hI2
  obtain ⟨imm, himm⟩ : ∃ imm, BitVec.ofInt 32 i = imm := ⟨_, rfl⟩
  obtain ⟨p2, hp2⟩ : ∃ p2, s.pc + 2#32 = p2 := ⟨_, rfl⟩
  have hw := wrap_ofInt i
  have hnp2 : IntKind.u32.wrap ((s.pc.toNat : Int) + 2) = ((s.pc + 2#32).toNat : Int) := by rw [IntKind.wrap_u32]; exact next_pc s.pc
  rw [himm] at hw
  rw [hp2] at hnp2
  have HIM := Lib.hid himm; have HP2 := Lib.hid hp2
  clear himm hp2
  go_region_held3 (fun w' => K13e w.heap.size s w' (w'.cell? ⟨g, 4, none⟩ = some (.int .i64 i))) (first | with_reducible exact HL0.out | with_reducible exact HL0d.out | with_reducible exact HL1.out | with_reducible exact HL3.out) (fail)
  clear HL0 HL0d HL1 HL3 n0 n1 n2 n3 n4 n5 n6 n7 n8 n9 n10 n11 n12 i4 HS3 HI3 HB3 HG HG3
  obtain ⟨w4, hw4⟩ : ∃ w4, (w3.alloc (.cells (sC s) 51)).drew = w4 := ⟨_, rfl⟩
  rw [hw4] at HR HBW
  simp only [sC] at hw4
  rw [hw4]
  clear hw4
  generalize w3.heap.size = g2 at *
  have i0 : w4.cell? ⟨g, 0, none⟩ = some (.int .i64 20) := HR.out.bi.cell 0
  have i1 : w4.cell? ⟨g, 1, none⟩ = some (.int .i64 D) := HR.out.bi.cell 1
  have i2 : w4.cell? ⟨g, 2, none⟩ = some (.int .i64 N) := HR.out.bi.cell 2
  have i3 : w4.cell? ⟨g, 3, none⟩ = some (.int .i64 M) := HR.out.bi.cell 3
  have rN := HR.out.b0.reg N hw0.n8
  have rM := HR.out.b0.reg M hw0.m8
  have hN2 : (N : Int) < 8 := by have := hw0.n8; omega
  have hM2 : (M : Int) < 8 := by have := hw0.m8; omega
  have hD8 : D < 8 := hw0.d8 (by decide)
  have rD := HR.out.b0.reg D hD8
  have hD2 : (D : Int) < 8 := by omega
  have hdm : (D : Int).tmod 8 = (D : Int) := by rw [tmod8, Nat.mod_eq_of_lt hD8]
  have hdm2 : (D : Int) % 8 = (D : Int) := by omega
  have HDM := Lib.hid hdm2
  go_wp2_with fail
  go_quiet (fail)
  have HR5 := Lib.hid (HR.out.drewN nq)
  have HB5 := Lib.hid (below_drewN HBW.out nq)
  generalize w4.drewN nq = w5 at *
  clear i0 i1 i2 i3 rN rM rD HR HBW
  have i0 : w5.cell? ⟨g, 0, none⟩ = some (.int .i64 20) := HR5.out.bi.cell 0
  have i1 : w5.cell? ⟨g, 1, none⟩ = some (.int .i64 D) := HR5.out.bi.cell 1
  have i4 : w5.cell? ⟨g, 4, none⟩ = some (.int .i64 i) := HR5.out.bi.cell 4
  obtain ⟨n0, n1, n2, n3, n4, n5, n6, n7, n8, n9, n10, n11, n12⟩ := Blk.cells13 HR5.out.b0
  obtain ⟨z0, z1, z2, z3, z4, z5, z6, z7, z8, z9, z10, z11, z12⟩ := Blk.cells13 HR5.out.b1
  obtain ⟨f0, f1, f2, f3, f4, f5, f6, f7, f8, f9, f10, f11, f12⟩ := Blk.frozen13 HR5.out.b1
  go_wp2_with fail
  clear i0 i1 i4
  clear n0 n1 n2 n3 n4 n5 n6 n7 n8 n9 n10 n11 n12 z0 z1 z2 z3 z4 z5 z6 z7 z8 z9 z10 z11 z12 f0 f1 f2 f3 f4 f5 f6 f7 f8 f9 f10 f11 f12
  obtain ⟨hB, hU⟩ := blk13 HR5.out.b1 s
  have HL := Lib.hid (upd_b (Upd.of_below HB5.out h.X) hU (by omega))
  have HPL := Lib.hid (PM.upd (PM.below HP.out HB5.out) hU (fun k hk e => by have := HBB.out k hk; omega))
  obtain ⟨w8, hw8⟩ : ∃ w8, put13 w5 (w.heap.size + 1) s = w8 := ⟨_, rfl⟩
  rw [hw8] at hB HL HPL
  simp only [put13] at hw8
  rw [hw8]
  clear hw8 hU
  obtain ⟨n0, n1, n2, n3, n4, n5, n6, n7, n8, n9, n10, n11, n12⟩ := Blk.cells13 hB
  exact bodyPost_ret (v := .tuple #[sv s, .bool true, .int .i64 0]) (by simp [results, Tryd.results31, go_sem, n0, n1, n2, n3, n4, n5, n6, n7, n8, n9, n10, n11, n12]) rfl ⟨rfl, HPL.out, HL.out⟩
end Go.Proofs.YtkafmpdjpjgkgaaDoor.Co
