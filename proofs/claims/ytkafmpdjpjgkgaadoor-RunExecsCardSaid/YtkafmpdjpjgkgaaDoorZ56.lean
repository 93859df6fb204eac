/- DERIVED. RnXe in one text. By an AI agent. -/
import Derived.Test.YtkafmpdjpjgkgaaDoorZ35
import Derived.Test.YtkafmpdjpjgkgaaDoorZ55
import Derived.Deep.RegionHeld3
import Derived.Deep.DeepCutAuto
/- DERIVED. The walk of RunExecs. By an AI agent. -/
namespace Go.Proofs.YtkafmpdjpjgkgaaDoor.Rn
open Go.ChangeShapes Go.WideShapes Go.ChangeAt Go.RowKit WMath Word Args Mm Co Lk
set_option linter.unusedVariables false
set_option linter.unusedSimpArgs false
set_option maxRecDepth 100000 in
set_option maxHeartbeats 16000000 in
theorem runExecs.walk (W : World) (v : Value) (C D T : List Int) (h : IsCase W v C D T) (z : Int) (hz : (Lit.int .i64 z).wf = true) (hT : Tp.Tb W) :
    Calls Tryd.prog 3 #[v, .int .i64 z] W fun e w' => e = .returned (.bool true) ∧ Below W.heap.size W w' := by
  obtain ⟨A1, c1, A2, c2, A3, c3, rfl, hcap, hC, hD, hE, hfit⟩ := h.open_
  clear h
  have hsm := small A1 c1 C A2 c2 D A3 c3 T (W.alloc (.cells (kC C D T A1 c1 A2 c2 A3 c3) 25)) ((Ext.alloc _ _).lies hC) ((Ext.alloc _ _).lies hD) ((Ext.alloc _ _).lies hE) hcap.1 hcap.2.1 hcap.2.2.1 hcap.2.2.2.1 hcap.2.2.2.2.1 hcap.2.2.2.2.2
  have hb0 := Blk.new W 25 (kC C D T A1 c1 A2 c2 A3 c3)
  have hx0 := Ext.alloc W (.cells (kC C D T A1 c1 A2 c2 A3 c3) 25)
  have hs0 : (W.alloc (.cells (kC C D T A1 c1 A2 c2 A3 c3) 25)).heap.size = W.heap.size + 1 := World.size_alloc _ _
  have t1 := take_len C 100; have t2 := take_len D 30; have t3 := take_len T 50
  generalize C.take 100 = C1 at *
  generalize D.take 30 = D1 at *
  generalize T.take 50 = T1 at *
  have HSM := Lib.hid hsm; have HB0 := Lib.hid hb0; have HX0 := Lib.hid hx0; have HS0 := Lib.hid hs0
  have T1' := Lib.hid t1; have T2' := Lib.hid t2; have T3' := Lib.hid t3; have HF := Lib.hid hfit; have HT := Lib.hid hT
  clear hsm hb0 hx0 hs0 t1 t2 t3 hfit hT hC hD hE hcap hz
  go_enter Tryd.func3, Tryd.ntmps3
  go_upto_region 1 with fail
  generalize W.alloc (.cells #[.slice A1 C.length c1, .slice A2 D.length c2, .slice A3 T.length c3] 25) = w0 at *
  have x0 := HB0.out.cell 0; have x1 := HB0.out.cell 1; have x2 := HB0.out.cell 2
  simp at x0 x1 x2
  go_wp2_with fail
  refine HSM.out.mono ?_
  rintro e w1 ⟨B1, d1, B2, d2, B3, d3, rfl, hk, hl1, hl2, hl3, hx1⟩
  have HK := Lib.hid hk; have HL1 := Lib.hid hl1; have HL2 := Lib.hid hl2; have HL3 := Lib.hid hl3
  have HB1 := Lib.hid (HB0.out.below hx1 HB0.out.lt); have HX1 := Lib.hid (HX0.out.trans hx1)
  clear hk hl1 hl2 hl3 hx1 x0 x1 x2 HB0 HX0 HSM
  go_wp2_with fail
  refine (few z w1).mono ?_
  rintro e w1' ⟨rfl, rfl⟩
  have hz1 := few_le z
  generalize (if 300 < z then 300 else z) = z1 at *
  have HZ1 := Lib.hid hz1
  clear hz1
  have x0 := HB1.out.cell 0; have x1 := HB1.out.cell 1; have x2 := HB1.out.cell 2
  have f0 := HB1.out.frozen 0; have f1 := HB1.out.frozen 1; have f2 := HB1.out.frozen 2
  simp at x0 x1 x2
  go_upto_region 2 with fail
  clear x0 x1 x2 f0 f1 f2
  obtain ⟨wz, hwz, hbx, hx2⟩ := bx_put (c1 := d1) (c2 := d2) (c3 := d3) HB1.out HX1.out (HS0.out ▸ HL1.out) (HS0.out ▸ HL2.out) (HS0.out ▸ HL3.out)
  simp only [stow3] at hwz
  rw [hwz]
  have HBX := Lib.hid hbx; have HX2 := Lib.hid hx2
  clear hwz hbx hx2 HB1 HX1 HL1 HL2 HL3 HS0
  obtain ⟨n, hmin, hmax, hn, hlo, hneg⟩ := lim z1 (by have := HZ1.out; omega)
  have hA0 : ∀ w, Ext wz w → Calls Tryd.prog 10 #[.slice B1 C1.length d1, .slice B2 D1.length d2, .slice B3 T1.length d3, .int .i64 z1] w (OutEnd (runV n zS (m0 C1 D1 T1)) true w) := fun w hx =>
    exec B1 d1 C1 B2 d2 D1 B3 d3 T1 z1 z1 n w (hx.lies HBX.out.la) (hx.lies HBX.out.lb) (hx.lies HBX.out.lc) HK.out.1 HK.out.2.1 HK.out.2.2.1 HK.out.2.2.2.1 HF.out T2'.out (by have := T3'.out; omega) hmin hmax hn (HT.out.below (HX2.out.trans hx))
  have hQ0 : ∀ w, Ext wz w → Calls Tryd.prog 12 #[.slice B1 C1.length d1, .slice B2 D1.length d2, .slice B3 T1.length d3, .int .i64 z1] w (OutEnd (runV n zS (m0 C1 D1 T1)) false w) := fun w hx =>
    quick B1 d1 C1 B2 d2 D1 B3 d3 T1 z1 z1 n w (hx.lies HBX.out.la) (hx.lies HBX.out.lb) (hx.lies HBX.out.lc) HK.out.1 HK.out.2.1 HK.out.2.2.1 HK.out.2.2.2.1 HF.out T2'.out (by have := T3'.out; omega) hmin hmax hn (HT.out.below (HX2.out.trans hx))
  have hB0 : ∀ w, Ext wz w → Calls Tryd.prog 11 #[.slice B1 C1.length d1, .slice B2 D1.length d2, .slice B3 T1.length d3, .int .i64 z1] w (OutEnd (runV n zS (m0 C1 D1 T1)) true w) := fun w hx =>
    rexec B1 d1 C1 B2 d2 D1 B3 d3 T1 z1 n w (hx.lies HBX.out.la) (hx.lies HBX.out.lb) (hx.lies HBX.out.lc) (by have := T1'.out; omega) HF.out T2'.out (by have := T3'.out; omega) (by have := HZ1.out; omega) hlo hneg
  have hlen := run_len n zS (m0 C1 D1 T1)
  have hTT := (run_T n zS (m0 C1 D1 T1)).2
  generalize runV n zS (m0 C1 D1 T1) = R at *
  have HA0 := Lib.hid hA0; have HB0 := Lib.hid hB0; have HQ0 := Lib.hid hQ0
  have HLN := Lib.hid (show R.ls.length ≤ 100000 by omega)
  have HTT := Lib.hid (show R.m.W.length ≤ 100000 by have h1 : R.m.W.length = D1.length := hTT; have := T2'.out; omega)
  clear hA0 hB0 hQ0 hlen hTT hmin hmax hn hlo hneg
  go_cut [5, 6] (fun v7 v8 wx => ∃ gp gq F1 f1 G1 g1 F2 f2 G2 g2, v7 = .pointer (some ⟨gp, 0, none⟩) ∧ v8 = .pointer (some ⟨gq, 0, none⟩) ∧ Hid (Two wz gp gq R R true true F1 f1 G1 g1 F2 f2 G2 g2 wx) ∧ Hid (W.heap.size ≤ gq))
  case first =>
    obtain ⟨w0, hw0⟩ : ∃ w0, wz.drew = w0 := ⟨_, rfl⟩
    have HX := Lib.hid (show Ext wz w0 from hw0 ▸ Ext.drew wz)
    have hS0 := KT.of HBX.out HX.out
    refine wp_region_noPanic ?_
    refine wp_region_held_drew (S := fun w' => KT wz W.heap.size (.slice B1 C1.length d1) (.slice B2 D1.length d2) (.slice B3 T1.length d3) w') (by kernel_rfl) (KT.of HBX.out (Ext.drew wz)) (fun hH => ?_)
    rw [hw0]
    clear hw0 hH
    refine wpAnyH_take (i := 0) (v := ?_) rfl (by kernel_rfl) (by kernel_rfl) (by kernel_rfl) (fun _ _ _ h => h) (Or.inl ⟨by rfl, ?_⟩) hS0 ?_
    rotate_left
    · (intro w hSw; (try dsimp only at hSw); go_simp; try with_reducible rfl)
    (try simp only [Act.put, List.getElem_toArray, List.getElem_cons_succ, List.getElem_cons_zero, List.setIfInBounds_toArray, List.set_cons_zero, List.set_cons_succ])
    refine wpAnyH_take (i := 1) (v := ?_) rfl (by kernel_rfl) (by kernel_rfl) (by kernel_rfl) (fun _ _ _ h => h) (Or.inl ⟨by rfl, ?_⟩) hS0 ?_
    rotate_left
    · (intro w hSw; (try dsimp only at hSw); go_simp; try with_reducible rfl)
    (try simp only [Act.put, List.getElem_toArray, List.getElem_cons_succ, List.getElem_cons_zero, List.setIfInBounds_toArray, List.set_cons_zero, List.set_cons_succ])
    refine wpAnyH_take (i := 2) (v := ?_) rfl (by kernel_rfl) (by kernel_rfl) (by kernel_rfl) (fun _ _ _ h => h) (Or.inl ⟨by rfl, ?_⟩) hS0 ?_
    rotate_left
    · (intro w hSw; (try dsimp only at hSw); go_simp; try with_reducible rfl)
    (try simp only [Act.put, List.getElem_toArray, List.getElem_cons_succ, List.getElem_cons_zero, List.setIfInBounds_toArray, List.set_cons_zero, List.set_cons_succ])
    refine wpAnyH_take (i := 3) (v := ?_) rfl (by kernel_rfl) (by kernel_rfl) (by kernel_rfl) (fun _ _ _ h => h) (Or.inl ⟨by rfl, ?_⟩) hS0 ?_
    rotate_left
    · (intro w hSw; (try dsimp only at hSw); go_simp; try with_reducible rfl)
    (try simp only [Act.put, List.getElem_toArray, List.getElem_cons_succ, List.getElem_cons_zero, List.setIfInBounds_toArray, List.set_cons_zero, List.set_cons_succ])
    refine wpAnyH_take (i := 4) (v := ?_) rfl (by kernel_rfl) (by kernel_rfl) (by kernel_rfl) (fun _ _ _ h => h) (Or.inl ⟨by rfl, ?_⟩) hS0 ?_
    rotate_left
    · (intro w hSw; (try dsimp only at hSw); go_simp; try with_reducible rfl)
    (try simp only [Act.put, List.getElem_toArray, List.getElem_cons_succ, List.getElem_cons_zero, List.setIfInBounds_toArray, List.set_cons_zero, List.set_cons_succ])
    refine wpAnyH_take (i := 5) (v := ?_) rfl (by kernel_rfl) (by kernel_rfl) (by kernel_rfl) (fun _ _ _ h => h) (Or.inl ⟨by rfl, ?_⟩) hS0 ?_
    rotate_left
    · (intro w hSw; (try dsimp only at hSw); go_simp; try with_reducible rfl)
    (try simp only [Act.put, List.getElem_toArray, List.getElem_cons_succ, List.getElem_cons_zero, List.setIfInBounds_toArray, List.set_cons_zero, List.set_cons_succ])
    refine wpAnyH_take (i := 6) (v := ?_) rfl (by kernel_rfl) (by kernel_rfl) (by kernel_rfl) (fun _ _ _ h => h) (Or.inl ⟨by rfl, ?_⟩) hS0 ?_
    rotate_left
    · (intro w hSw; (try dsimp only at hSw); go_simp; try with_reducible rfl)
    (try simp only [Act.put, List.getElem_toArray, List.getElem_cons_succ, List.getElem_cons_zero, List.setIfInBounds_toArray, List.set_cons_zero, List.set_cons_succ])
    refine wpAnyH_take (i := 8) (v := ?_) rfl (by kernel_rfl) (by kernel_rfl) (by kernel_rfl) (fun _ _ _ h => h) (Or.inl ⟨by rfl, ?_⟩) hS0 ?_
    rotate_left
    · (intro w hSw; (try dsimp only at hSw); go_simp; try with_reducible rfl)
    (try simp only [Act.put, List.getElem_toArray, List.getElem_cons_succ, List.getElem_cons_zero, List.setIfInBounds_toArray, List.set_cons_zero, List.set_cons_succ])
    refine wpAnyH_take (i := 9) (v := ?_) rfl (by kernel_rfl) (by kernel_rfl) (by kernel_rfl) (fun _ _ _ h => h) (Or.inl ⟨by rfl, ?_⟩) hS0 ?_
    rotate_left
    · (intro w hSw; (try dsimp only at hSw); go_simp; try with_reducible rfl)
    (try simp only [Act.put, List.getElem_toArray, List.getElem_cons_succ, List.getElem_cons_zero, List.setIfInBounds_toArray, List.set_cons_zero, List.set_cons_succ])
    refine wpAnyH_take (i := 10) (v := ?_) rfl (by kernel_rfl) (by kernel_rfl) (by kernel_rfl) (fun _ _ _ h => h) (Or.inl ⟨by rfl, ?_⟩) hS0 ?_
    rotate_left
    · (intro w hSw; (try dsimp only at hSw); go_simp; try with_reducible rfl)
    (try simp only [Act.put, List.getElem_toArray, List.getElem_cons_succ, List.getElem_cons_zero, List.setIfInBounds_toArray, List.set_cons_zero, List.set_cons_succ])
    refine wpAnyH_take (i := 11) (v := ?_) rfl (by kernel_rfl) (by kernel_rfl) (by kernel_rfl) (fun _ _ _ h => h) (Or.inl ⟨by rfl, ?_⟩) hS0 ?_
    rotate_left
    · (intro w hSw; (try dsimp only at hSw); go_simp; try with_reducible rfl)
    (try simp only [Act.put, List.getElem_toArray, List.getElem_cons_succ, List.getElem_cons_zero, List.setIfInBounds_toArray, List.set_cons_zero, List.set_cons_succ])
    refine wpAnyH_take (i := 12) (v := ?_) rfl (by kernel_rfl) (by kernel_rfl) (by kernel_rfl) (fun _ _ _ h => h) (Or.inl ⟨by rfl, ?_⟩) hS0 ?_
    rotate_left
    · (intro w hSw; (try dsimp only at hSw); go_simp; try with_reducible rfl)
    (try simp only [Act.put, List.getElem_toArray, List.getElem_cons_succ, List.getElem_cons_zero, List.setIfInBounds_toArray, List.set_cons_zero, List.set_cons_succ])
    refine wpAnyH_take (i := 13) (v := ?_) rfl (by kernel_rfl) (by kernel_rfl) (by kernel_rfl) (fun _ _ _ h => h) (Or.inl ⟨by rfl, ?_⟩) hS0 ?_
    rotate_left
    · (intro w hSw; (try dsimp only at hSw); go_simp; try with_reducible rfl)
    (try simp only [Act.put, List.getElem_toArray, List.getElem_cons_succ, List.getElem_cons_zero, List.setIfInBounds_toArray, List.set_cons_zero, List.set_cons_succ])
    refine wpAnyH_take (i := 14) (v := ?_) rfl (by kernel_rfl) (by kernel_rfl) (by kernel_rfl) (fun _ _ _ h => h) (Or.inl ⟨by rfl, ?_⟩) hS0 ?_
    rotate_left
    · (intro w hSw; (try dsimp only at hSw); go_simp; try with_reducible rfl)
    (try simp only [Act.put, List.getElem_toArray, List.getElem_cons_succ, List.getElem_cons_zero, List.setIfInBounds_toArray, List.set_cons_zero, List.set_cons_succ])
    clear hS0
    refine wpAnyH_ready (rs := [7, 16, 17]) (by kernel_rfl) (by simp) (AllReadyH.cons rfl (fun K hK => ?_) (AllReadyH.cons rfl (fun K hK => ?_) (AllReadyH.cons rfl (fun K hK => ?_) AllReadyH.nil)))
    · go_simp
      go_at_call 10; refine (HA0.out _ HX.out).mono ?_
      rintro e w1 ⟨F1, f1, G1, g1, rfl, hla, hlb, hk, hx⟩
      replace HX := Lib.hid (HX.out.trans hx)
      have HA := Lib.hid (Lo.mk hla.lies hlb.lies)
      have HKA := Lib.hid hk
      clear hla hlb hk hx
      go_wp2_with fail
      refine hK.out _ _ (KT.of HBX.out HX.out) (fun hH => ?_)
      clear hK K hH
      (try simp only [Act.put, List.getElem_toArray, List.getElem_cons_succ, List.getElem_cons_zero, List.setIfInBounds_toArray, List.set_cons_zero, List.set_cons_succ])
      refine wpAnyH_ready (rs := [15, 16, 17]) (by kernel_rfl) (by simp) (AllReadyH.cons rfl (fun K hK => ?_) (AllReadyH.cons rfl (fun K hK => ?_) (AllReadyH.cons rfl (fun K hK => ?_) AllReadyH.nil)))
      · go_simp
        go_at_call 11; refine (HB0.out _ HX.out).mono ?_
        rintro e w2 ⟨F2, f2, G2, g2, rfl, hla, hlb, hk, hx⟩
        replace HX := Lib.hid (HX.out.trans hx)
        have HB := Lib.hid (Lo.mk hla.lies hlb.lies)
        have HKB := Lib.hid hk
        replace HA := Lib.hid (HA.out.ext hx)
        clear hla hlb hk hx
        go_wp2_with fail
        refine hK.out _ _ (KT.of HBX.out HX.out) (fun hH => ?_)
        clear hK K hH
        (try simp only [Act.put, List.getElem_toArray, List.getElem_cons_succ, List.getElem_cons_zero, List.setIfInBounds_toArray, List.set_cons_zero, List.set_cons_succ])
        refine wpAnyH_ready (rs := [16, 17]) (by kernel_rfl) (by simp) (AllReadyH.cons rfl (fun K hK => ?_) (AllReadyH.cons rfl (fun K hK => ?_) AllReadyH.nil))
        · go_simp
          have hx := Ext.alloc w2 (.cells z5 31)
          have hn := Bk.new HX.out
          refine hK.out _ _ (KT.of HBX.out (HX.out.trans hx)) (fun hH => ?_)
          clear hK K hH
          (try simp only [Act.put, List.getElem_toArray, List.getElem_cons_succ, List.getElem_cons_zero, List.setIfInBounds_toArray, List.set_cons_zero, List.set_cons_succ])
          obtain ⟨w3, hw⟩ : ∃ w3, w2.alloc (.cells z5 31) = w3 := ⟨_, rfl⟩
          rw [hw] at hx hn
          replace HX := Lib.hid (HX.out.trans hx)
          have HP := Lib.hid hn
          replace HA := Lib.hid (HA.out.ext hx)
          replace HB := Lib.hid (HB.out.ext hx)
          rw [show w2.alloc (.cells #[.int .i64 0, .int .i64 0, .int .i64 0, .slice none 0 0, .slice none 0 0] 31) = w3 from hw]
          clear hw hx hn
          generalize w2.heap.size = gp at *
          refine wpAnyH_ready (rs := [17]) (by kernel_rfl) (by simp) (AllReadyH.cons rfl (fun K hK => ?_) AllReadyH.nil)
          · go_simp
            have hx := Ext.alloc w3 (.cells z5 31)
            have hn := Bk.new HX.out
            refine hK.out _ _ (KT.of HBX.out (HX.out.trans hx)) (fun hH => ?_)
            clear hK K hH
            (try simp only [Act.put, List.getElem_toArray, List.getElem_cons_succ, List.getElem_cons_zero, List.setIfInBounds_toArray, List.set_cons_zero, List.set_cons_succ])
            have hlt := HP.out.b.lt
            obtain ⟨w4, hw⟩ : ∃ w4, w3.alloc (.cells z5 31) = w4 := ⟨_, rfl⟩
            rw [hw] at hx hn
            replace HX := Lib.hid (HX.out.trans hx)
            have HQ := Lib.hid hn
            replace HP := Lib.hid (HP.out.ext hx)
            replace HA := Lib.hid (HA.out.ext hx)
            replace HB := Lib.hid (HB.out.ext hx)
            rw [show w3.alloc (.cells #[.int .i64 0, .int .i64 0, .int .i64 0, .slice none 0 0, .slice none 0 0] 31) = w4 from hw]
            clear hw hx hn
            generalize w3.heap.size = gq at *
            have HNE := Lib.hid (show gp ≠ gq by omega)
            clear hlt
            have b0 := HP.out.b.cell 0; have b1 := HP.out.b.cell 1; have b2 := HP.out.b.cell 2; have b3 := HP.out.b.cell 3; have b4 := HP.out.b.cell 4
            have k0 := HP.out.b.frozen 0; have k1 := HP.out.b.frozen 1; have k2 := HP.out.b.frozen 2; have k3 := HP.out.b.frozen 3; have k4 := HP.out.b.frozen 4
            have d0 := HQ.out.b.cell 0; have d1 := HQ.out.b.cell 1; have d2 := HQ.out.b.cell 2; have d3 := HQ.out.b.cell 3; have d4 := HQ.out.b.cell 4
            have m0' := HQ.out.b.frozen 0; have m1 := HQ.out.b.frozen 1; have m2 := HQ.out.b.frozen 2; have m3 := HQ.out.b.frozen 3; have m4 := HQ.out.b.frozen 4
            simp at b0 b1 b2 b3 b4 d0 d1 d2 d3 d4
            have e1 := HNE.out; have e2 := Ne.symm HNE.out
            refine wpAnyH_ready (rs := [18]) (by kernel_rfl) (by simp) (AllReadyH.cons rfl (fun K hK => ?_) AllReadyH.nil)
            go_simp
            refine hK.out _ _ (KT.of HBX.out (ext_stow HX.out HP.out.lo _ _ _ _ _)) (fun hH => ?_)
            clear hK K hH
            (try simp only [Act.put, List.getElem_toArray, List.getElem_cons_succ, List.getElem_cons_zero, List.setIfInBounds_toArray, List.set_cons_zero, List.set_cons_succ])
            refine wpAnyH_ready (rs := [19]) (by kernel_rfl) (by simp) (AllReadyH.cons rfl (fun K hK => ?_) AllReadyH.nil)
            go_simp
            refine hK.out _ _ (KT.of HBX.out (ext_stow (ext_stow HX.out HP.out.lo _ _ _ _ _) HQ.out.lo _ _ _ _ _)) (fun hH => ?_)
            clear hK K hH b0 b1 b2 b3 b4 k0 k1 k2 k3 k4 d0 d1 d2 d3 d4 m0' m1 m2 m3 m4 e1 e2
            (try simp only [Act.put, List.getElem_toArray, List.getElem_cons_succ, List.getElem_cons_zero, List.setIfInBounds_toArray, List.set_cons_zero, List.set_cons_succ])
            refine wpAnyH_done (by kernel_rfl) ?_ _
            refine NoPanic.normal ?_
            go_wp2_with fail
            go_meet
            case rel => exact ⟨gp, gq, F1, f1, G1, g1, F2, f2, G2, g2, rfl, rfl, Lib.hid (two_put f1 g1 f2 g2 HX.out HP.out HQ.out HNE.out HA.out HB.out), Lib.hid (Nat.le_trans (Below.size HX2.out) HQ.out.lo)⟩
        · go_simp
          have hx := Ext.alloc w2 (.cells z5 31)
          have hn := Bk.new HX.out
          refine hK.out _ _ (KT.of HBX.out (HX.out.trans hx)) (fun hH => ?_)
          clear hK K hH
          (try simp only [Act.put, List.getElem_toArray, List.getElem_cons_succ, List.getElem_cons_zero, List.setIfInBounds_toArray, List.set_cons_zero, List.set_cons_succ])
          obtain ⟨w3, hw⟩ : ∃ w3, w2.alloc (.cells z5 31) = w3 := ⟨_, rfl⟩
          rw [hw] at hx hn
          replace HX := Lib.hid (HX.out.trans hx)
          have HQ := Lib.hid hn
          replace HA := Lib.hid (HA.out.ext hx)
          replace HB := Lib.hid (HB.out.ext hx)
          rw [show w2.alloc (.cells #[.int .i64 0, .int .i64 0, .int .i64 0, .slice none 0 0, .slice none 0 0] 31) = w3 from hw]
          clear hw hx hn
          generalize w2.heap.size = gq at *
          refine wpAnyH_ready (rs := [16]) (by kernel_rfl) (by simp) (AllReadyH.cons rfl (fun K hK => ?_) AllReadyH.nil)
          · go_simp
            have hx := Ext.alloc w3 (.cells z5 31)
            have hn := Bk.new HX.out
            refine hK.out _ _ (KT.of HBX.out (HX.out.trans hx)) (fun hH => ?_)
            clear hK K hH
            (try simp only [Act.put, List.getElem_toArray, List.getElem_cons_succ, List.getElem_cons_zero, List.setIfInBounds_toArray, List.set_cons_zero, List.set_cons_succ])
            have hlt := HQ.out.b.lt
            obtain ⟨w4, hw⟩ : ∃ w4, w3.alloc (.cells z5 31) = w4 := ⟨_, rfl⟩
            rw [hw] at hx hn
            replace HX := Lib.hid (HX.out.trans hx)
            have HP := Lib.hid hn
            replace HQ := Lib.hid (HQ.out.ext hx)
            replace HA := Lib.hid (HA.out.ext hx)
            replace HB := Lib.hid (HB.out.ext hx)
            rw [show w3.alloc (.cells #[.int .i64 0, .int .i64 0, .int .i64 0, .slice none 0 0, .slice none 0 0] 31) = w4 from hw]
            clear hw hx hn
            generalize w3.heap.size = gp at *
            have HNE := Lib.hid (show gp ≠ gq by omega)
            clear hlt
            have b0 := HP.out.b.cell 0; have b1 := HP.out.b.cell 1; have b2 := HP.out.b.cell 2; have b3 := HP.out.b.cell 3; have b4 := HP.out.b.cell 4
            have k0 := HP.out.b.frozen 0; have k1 := HP.out.b.frozen 1; have k2 := HP.out.b.frozen 2; have k3 := HP.out.b.frozen 3; have k4 := HP.out.b.frozen 4
            have d0 := HQ.out.b.cell 0; have d1 := HQ.out.b.cell 1; have d2 := HQ.out.b.cell 2; have d3 := HQ.out.b.cell 3; have d4 := HQ.out.b.cell 4
            have m0' := HQ.out.b.frozen 0; have m1 := HQ.out.b.frozen 1; have m2 := HQ.out.b.frozen 2; have m3 := HQ.out.b.frozen 3; have m4 := HQ.out.b.frozen 4
            simp at b0 b1 b2 b3 b4 d0 d1 d2 d3 d4
            have e1 := HNE.out; have e2 := Ne.symm HNE.out
            refine wpAnyH_ready (rs := [18]) (by kernel_rfl) (by simp) (AllReadyH.cons rfl (fun K hK => ?_) AllReadyH.nil)
            go_simp
            refine hK.out _ _ (KT.of HBX.out (ext_stow HX.out HP.out.lo _ _ _ _ _)) (fun hH => ?_)
            clear hK K hH
            (try simp only [Act.put, List.getElem_toArray, List.getElem_cons_succ, List.getElem_cons_zero, List.setIfInBounds_toArray, List.set_cons_zero, List.set_cons_succ])
            refine wpAnyH_ready (rs := [19]) (by kernel_rfl) (by simp) (AllReadyH.cons rfl (fun K hK => ?_) AllReadyH.nil)
            go_simp
            refine hK.out _ _ (KT.of HBX.out (ext_stow (ext_stow HX.out HP.out.lo _ _ _ _ _) HQ.out.lo _ _ _ _ _)) (fun hH => ?_)
            clear hK K hH b0 b1 b2 b3 b4 k0 k1 k2 k3 k4 d0 d1 d2 d3 d4 m0' m1 m2 m3 m4 e1 e2
            (try simp only [Act.put, List.getElem_toArray, List.getElem_cons_succ, List.getElem_cons_zero, List.setIfInBounds_toArray, List.set_cons_zero, List.set_cons_succ])
            refine wpAnyH_done (by kernel_rfl) ?_ _
            refine NoPanic.normal ?_
            go_wp2_with fail
            go_meet
            case rel => exact ⟨gp, gq, F1, f1, G1, g1, F2, f2, G2, g2, rfl, rfl, Lib.hid (two_put f1 g1 f2 g2 HX.out HP.out HQ.out HNE.out HA.out HB.out), Lib.hid (Nat.le_trans (Below.size HX2.out) HQ.out.lo)⟩
      · go_simp
        have hx := Ext.alloc w1 (.cells z5 31)
        have hn := Bk.new HX.out
        refine hK.out _ _ (KT.of HBX.out (HX.out.trans hx)) (fun hH => ?_)
        clear hK K hH
        (try simp only [Act.put, List.getElem_toArray, List.getElem_cons_succ, List.getElem_cons_zero, List.setIfInBounds_toArray, List.set_cons_zero, List.set_cons_succ])
        obtain ⟨w2, hw⟩ : ∃ w2, w1.alloc (.cells z5 31) = w2 := ⟨_, rfl⟩
        rw [hw] at hx hn
        replace HX := Lib.hid (HX.out.trans hx)
        have HP := Lib.hid hn
        replace HA := Lib.hid (HA.out.ext hx)
        rw [show w1.alloc (.cells #[.int .i64 0, .int .i64 0, .int .i64 0, .slice none 0 0, .slice none 0 0] 31) = w2 from hw]
        clear hw hx hn
        generalize w1.heap.size = gp at *
        refine wpAnyH_ready (rs := [15, 17]) (by kernel_rfl) (by simp) (AllReadyH.cons rfl (fun K hK => ?_) (AllReadyH.cons rfl (fun K hK => ?_) AllReadyH.nil))
        · go_simp
          go_at_call 11; refine (HB0.out _ HX.out).mono ?_
          rintro e w3 ⟨F2, f2, G2, g2, rfl, hla, hlb, hk, hx⟩
          replace HX := Lib.hid (HX.out.trans hx)
          have HB := Lib.hid (Lo.mk hla.lies hlb.lies)
          have HKB := Lib.hid hk
          replace HP := Lib.hid (HP.out.ext hx)
          replace HA := Lib.hid (HA.out.ext hx)
          clear hla hlb hk hx
          go_wp2_with fail
          refine hK.out _ _ (KT.of HBX.out HX.out) (fun hH => ?_)
          clear hK K hH
          (try simp only [Act.put, List.getElem_toArray, List.getElem_cons_succ, List.getElem_cons_zero, List.setIfInBounds_toArray, List.set_cons_zero, List.set_cons_succ])
          refine wpAnyH_ready (rs := [17]) (by kernel_rfl) (by simp) (AllReadyH.cons rfl (fun K hK => ?_) AllReadyH.nil)
          · go_simp
            have hx := Ext.alloc w3 (.cells z5 31)
            have hn := Bk.new HX.out
            refine hK.out _ _ (KT.of HBX.out (HX.out.trans hx)) (fun hH => ?_)
            clear hK K hH
            (try simp only [Act.put, List.getElem_toArray, List.getElem_cons_succ, List.getElem_cons_zero, List.setIfInBounds_toArray, List.set_cons_zero, List.set_cons_succ])
            have hlt := HP.out.b.lt
            obtain ⟨w4, hw⟩ : ∃ w4, w3.alloc (.cells z5 31) = w4 := ⟨_, rfl⟩
            rw [hw] at hx hn
            replace HX := Lib.hid (HX.out.trans hx)
            have HQ := Lib.hid hn
            replace HP := Lib.hid (HP.out.ext hx)
            replace HA := Lib.hid (HA.out.ext hx)
            replace HB := Lib.hid (HB.out.ext hx)
            rw [show w3.alloc (.cells #[.int .i64 0, .int .i64 0, .int .i64 0, .slice none 0 0, .slice none 0 0] 31) = w4 from hw]
            clear hw hx hn
            generalize w3.heap.size = gq at *
            have HNE := Lib.hid (show gp ≠ gq by omega)
            clear hlt
            have b0 := HP.out.b.cell 0; have b1 := HP.out.b.cell 1; have b2 := HP.out.b.cell 2; have b3 := HP.out.b.cell 3; have b4 := HP.out.b.cell 4
            have k0 := HP.out.b.frozen 0; have k1 := HP.out.b.frozen 1; have k2 := HP.out.b.frozen 2; have k3 := HP.out.b.frozen 3; have k4 := HP.out.b.frozen 4
            have d0 := HQ.out.b.cell 0; have d1 := HQ.out.b.cell 1; have d2 := HQ.out.b.cell 2; have d3 := HQ.out.b.cell 3; have d4 := HQ.out.b.cell 4
            have m0' := HQ.out.b.frozen 0; have m1 := HQ.out.b.frozen 1; have m2 := HQ.out.b.frozen 2; have m3 := HQ.out.b.frozen 3; have m4 := HQ.out.b.frozen 4
            simp at b0 b1 b2 b3 b4 d0 d1 d2 d3 d4
            have e1 := HNE.out; have e2 := Ne.symm HNE.out
            refine wpAnyH_ready (rs := [18]) (by kernel_rfl) (by simp) (AllReadyH.cons rfl (fun K hK => ?_) AllReadyH.nil)
            go_simp
            refine hK.out _ _ (KT.of HBX.out (ext_stow HX.out HP.out.lo _ _ _ _ _)) (fun hH => ?_)
            clear hK K hH
            (try simp only [Act.put, List.getElem_toArray, List.getElem_cons_succ, List.getElem_cons_zero, List.setIfInBounds_toArray, List.set_cons_zero, List.set_cons_succ])
            refine wpAnyH_ready (rs := [19]) (by kernel_rfl) (by simp) (AllReadyH.cons rfl (fun K hK => ?_) AllReadyH.nil)
            go_simp
            refine hK.out _ _ (KT.of HBX.out (ext_stow (ext_stow HX.out HP.out.lo _ _ _ _ _) HQ.out.lo _ _ _ _ _)) (fun hH => ?_)
            clear hK K hH b0 b1 b2 b3 b4 k0 k1 k2 k3 k4 d0 d1 d2 d3 d4 m0' m1 m2 m3 m4 e1 e2
            (try simp only [Act.put, List.getElem_toArray, List.getElem_cons_succ, List.getElem_cons_zero, List.setIfInBounds_toArray, List.set_cons_zero, List.set_cons_succ])
            refine wpAnyH_done (by kernel_rfl) ?_ _
            refine NoPanic.normal ?_
            go_wp2_with fail
            go_meet
            case rel => exact ⟨gp, gq, F1, f1, G1, g1, F2, f2, G2, g2, rfl, rfl, Lib.hid (two_put f1 g1 f2 g2 HX.out HP.out HQ.out HNE.out HA.out HB.out), Lib.hid (Nat.le_trans (Below.size HX2.out) HQ.out.lo)⟩
        · go_simp
          have hx := Ext.alloc w2 (.cells z5 31)
          have hn := Bk.new HX.out
          refine hK.out _ _ (KT.of HBX.out (HX.out.trans hx)) (fun hH => ?_)
          clear hK K hH
          (try simp only [Act.put, List.getElem_toArray, List.getElem_cons_succ, List.getElem_cons_zero, List.setIfInBounds_toArray, List.set_cons_zero, List.set_cons_succ])
          have hlt := HP.out.b.lt
          obtain ⟨w3, hw⟩ : ∃ w3, w2.alloc (.cells z5 31) = w3 := ⟨_, rfl⟩
          rw [hw] at hx hn
          replace HX := Lib.hid (HX.out.trans hx)
          have HQ := Lib.hid hn
          replace HP := Lib.hid (HP.out.ext hx)
          replace HA := Lib.hid (HA.out.ext hx)
          rw [show w2.alloc (.cells #[.int .i64 0, .int .i64 0, .int .i64 0, .slice none 0 0, .slice none 0 0] 31) = w3 from hw]
          clear hw hx hn
          generalize w2.heap.size = gq at *
          have HNE := Lib.hid (show gp ≠ gq by omega)
          clear hlt
          refine wpAnyH_ready (rs := [15]) (by kernel_rfl) (by simp) (AllReadyH.cons rfl (fun K hK => ?_) AllReadyH.nil)
          · go_simp
            go_at_call 11; refine (HB0.out _ HX.out).mono ?_
            rintro e w4 ⟨F2, f2, G2, g2, rfl, hla, hlb, hk, hx⟩
            replace HX := Lib.hid (HX.out.trans hx)
            have HB := Lib.hid (Lo.mk hla.lies hlb.lies)
            have HKB := Lib.hid hk
            replace HP := Lib.hid (HP.out.ext hx)
            replace HQ := Lib.hid (HQ.out.ext hx)
            replace HA := Lib.hid (HA.out.ext hx)
            clear hla hlb hk hx
            go_wp2_with fail
            refine hK.out _ _ (KT.of HBX.out HX.out) (fun hH => ?_)
            clear hK K hH
            (try simp only [Act.put, List.getElem_toArray, List.getElem_cons_succ, List.getElem_cons_zero, List.setIfInBounds_toArray, List.set_cons_zero, List.set_cons_succ])
            have b0 := HP.out.b.cell 0; have b1 := HP.out.b.cell 1; have b2 := HP.out.b.cell 2; have b3 := HP.out.b.cell 3; have b4 := HP.out.b.cell 4
            have k0 := HP.out.b.frozen 0; have k1 := HP.out.b.frozen 1; have k2 := HP.out.b.frozen 2; have k3 := HP.out.b.frozen 3; have k4 := HP.out.b.frozen 4
            have d0 := HQ.out.b.cell 0; have d1 := HQ.out.b.cell 1; have d2 := HQ.out.b.cell 2; have d3 := HQ.out.b.cell 3; have d4 := HQ.out.b.cell 4
            have m0' := HQ.out.b.frozen 0; have m1 := HQ.out.b.frozen 1; have m2 := HQ.out.b.frozen 2; have m3 := HQ.out.b.frozen 3; have m4 := HQ.out.b.frozen 4
            simp at b0 b1 b2 b3 b4 d0 d1 d2 d3 d4
            have e1 := HNE.out; have e2 := Ne.symm HNE.out
            refine wpAnyH_ready (rs := [18]) (by kernel_rfl) (by simp) (AllReadyH.cons rfl (fun K hK => ?_) AllReadyH.nil)
            go_simp
            refine hK.out _ _ (KT.of HBX.out (ext_stow HX.out HP.out.lo _ _ _ _ _)) (fun hH => ?_)
            clear hK K hH
            (try simp only [Act.put, List.getElem_toArray, List.getElem_cons_succ, List.getElem_cons_zero, List.setIfInBounds_toArray, List.set_cons_zero, List.set_cons_succ])
            refine wpAnyH_ready (rs := [19]) (by kernel_rfl) (by simp) (AllReadyH.cons rfl (fun K hK => ?_) AllReadyH.nil)
            go_simp
            refine hK.out _ _ (KT.of HBX.out (ext_stow (ext_stow HX.out HP.out.lo _ _ _ _ _) HQ.out.lo _ _ _ _ _)) (fun hH => ?_)
            clear hK K hH b0 b1 b2 b3 b4 k0 k1 k2 k3 k4 d0 d1 d2 d3 d4 m0' m1 m2 m3 m4 e1 e2
            (try simp only [Act.put, List.getElem_toArray, List.getElem_cons_succ, List.getElem_cons_zero, List.setIfInBounds_toArray, List.set_cons_zero, List.set_cons_succ])
            refine wpAnyH_done (by kernel_rfl) ?_ _
            refine NoPanic.normal ?_
            go_wp2_with fail
            go_meet
            case rel => exact ⟨gp, gq, F1, f1, G1, g1, F2, f2, G2, g2, rfl, rfl, Lib.hid (two_put f1 g1 f2 g2 HX.out HP.out HQ.out HNE.out HA.out HB.out), Lib.hid (Nat.le_trans (Below.size HX2.out) HQ.out.lo)⟩
      · go_simp
        have hx := Ext.alloc w1 (.cells z5 31)
        have hn := Bk.new HX.out
        refine hK.out _ _ (KT.of HBX.out (HX.out.trans hx)) (fun hH => ?_)
        clear hK K hH
        (try simp only [Act.put, List.getElem_toArray, List.getElem_cons_succ, List.getElem_cons_zero, List.setIfInBounds_toArray, List.set_cons_zero, List.set_cons_succ])
        obtain ⟨w2, hw⟩ : ∃ w2, w1.alloc (.cells z5 31) = w2 := ⟨_, rfl⟩
        rw [hw] at hx hn
        replace HX := Lib.hid (HX.out.trans hx)
        have HQ := Lib.hid hn
        replace HA := Lib.hid (HA.out.ext hx)
        rw [show w1.alloc (.cells #[.int .i64 0, .int .i64 0, .int .i64 0, .slice none 0 0, .slice none 0 0] 31) = w2 from hw]
        clear hw hx hn
        generalize w1.heap.size = gq at *
        refine wpAnyH_ready (rs := [15, 16]) (by kernel_rfl) (by simp) (AllReadyH.cons rfl (fun K hK => ?_) (AllReadyH.cons rfl (fun K hK => ?_) AllReadyH.nil))
        · go_simp
          go_at_call 11; refine (HB0.out _ HX.out).mono ?_
          rintro e w3 ⟨F2, f2, G2, g2, rfl, hla, hlb, hk, hx⟩
          replace HX := Lib.hid (HX.out.trans hx)
          have HB := Lib.hid (Lo.mk hla.lies hlb.lies)
          have HKB := Lib.hid hk
          replace HQ := Lib.hid (HQ.out.ext hx)
          replace HA := Lib.hid (HA.out.ext hx)
          clear hla hlb hk hx
          go_wp2_with fail
          refine hK.out _ _ (KT.of HBX.out HX.out) (fun hH => ?_)
          clear hK K hH
          (try simp only [Act.put, List.getElem_toArray, List.getElem_cons_succ, List.getElem_cons_zero, List.setIfInBounds_toArray, List.set_cons_zero, List.set_cons_succ])
          refine wpAnyH_ready (rs := [16]) (by kernel_rfl) (by simp) (AllReadyH.cons rfl (fun K hK => ?_) AllReadyH.nil)
          · go_simp
            have hx := Ext.alloc w3 (.cells z5 31)
            have hn := Bk.new HX.out
            refine hK.out _ _ (KT.of HBX.out (HX.out.trans hx)) (fun hH => ?_)
            clear hK K hH
            (try simp only [Act.put, List.getElem_toArray, List.getElem_cons_succ, List.getElem_cons_zero, List.setIfInBounds_toArray, List.set_cons_zero, List.set_cons_succ])
            have hlt := HQ.out.b.lt
            obtain ⟨w4, hw⟩ : ∃ w4, w3.alloc (.cells z5 31) = w4 := ⟨_, rfl⟩
            rw [hw] at hx hn
            replace HX := Lib.hid (HX.out.trans hx)
            have HP := Lib.hid hn
            replace HQ := Lib.hid (HQ.out.ext hx)
            replace HA := Lib.hid (HA.out.ext hx)
            replace HB := Lib.hid (HB.out.ext hx)
            rw [show w3.alloc (.cells #[.int .i64 0, .int .i64 0, .int .i64 0, .slice none 0 0, .slice none 0 0] 31) = w4 from hw]
            clear hw hx hn
            generalize w3.heap.size = gp at *
            have HNE := Lib.hid (show gp ≠ gq by omega)
            clear hlt
            have b0 := HP.out.b.cell 0; have b1 := HP.out.b.cell 1; have b2 := HP.out.b.cell 2; have b3 := HP.out.b.cell 3; have b4 := HP.out.b.cell 4
            have k0 := HP.out.b.frozen 0; have k1 := HP.out.b.frozen 1; have k2 := HP.out.b.frozen 2; have k3 := HP.out.b.frozen 3; have k4 := HP.out.b.frozen 4
            have d0 := HQ.out.b.cell 0; have d1 := HQ.out.b.cell 1; have d2 := HQ.out.b.cell 2; have d3 := HQ.out.b.cell 3; have d4 := HQ.out.b.cell 4
            have m0' := HQ.out.b.frozen 0; have m1 := HQ.out.b.frozen 1; have m2 := HQ.out.b.frozen 2; have m3 := HQ.out.b.frozen 3; have m4 := HQ.out.b.frozen 4
            simp at b0 b1 b2 b3 b4 d0 d1 d2 d3 d4
            have e1 := HNE.out; have e2 := Ne.symm HNE.out
            refine wpAnyH_ready (rs := [18]) (by kernel_rfl) (by simp) (AllReadyH.cons rfl (fun K hK => ?_) AllReadyH.nil)
            go_simp
            refine hK.out _ _ (KT.of HBX.out (ext_stow HX.out HP.out.lo _ _ _ _ _)) (fun hH => ?_)
            clear hK K hH
            (try simp only [Act.put, List.getElem_toArray, List.getElem_cons_succ, List.getElem_cons_zero, List.setIfInBounds_toArray, List.set_cons_zero, List.set_cons_succ])
            refine wpAnyH_ready (rs := [19]) (by kernel_rfl) (by simp) (AllReadyH.cons rfl (fun K hK => ?_) AllReadyH.nil)
            go_simp
            refine hK.out _ _ (KT.of HBX.out (ext_stow (ext_stow HX.out HP.out.lo _ _ _ _ _) HQ.out.lo _ _ _ _ _)) (fun hH => ?_)
            clear hK K hH b0 b1 b2 b3 b4 k0 k1 k2 k3 k4 d0 d1 d2 d3 d4 m0' m1 m2 m3 m4 e1 e2
            (try simp only [Act.put, List.getElem_toArray, List.getElem_cons_succ, List.getElem_cons_zero, List.setIfInBounds_toArray, List.set_cons_zero, List.set_cons_succ])
            refine wpAnyH_done (by kernel_rfl) ?_ _
            refine NoPanic.normal ?_
            go_wp2_with fail
            go_meet
            case rel => exact ⟨gp, gq, F1, f1, G1, g1, F2, f2, G2, g2, rfl, rfl, Lib.hid (two_put f1 g1 f2 g2 HX.out HP.out HQ.out HNE.out HA.out HB.out), Lib.hid (Nat.le_trans (Below.size HX2.out) HQ.out.lo)⟩
        · go_simp
          have hx := Ext.alloc w2 (.cells z5 31)
          have hn := Bk.new HX.out
          refine hK.out _ _ (KT.of HBX.out (HX.out.trans hx)) (fun hH => ?_)
          clear hK K hH
          (try simp only [Act.put, List.getElem_toArray, List.getElem_cons_succ, List.getElem_cons_zero, List.setIfInBounds_toArray, List.set_cons_zero, List.set_cons_succ])
          have hlt := HQ.out.b.lt
          obtain ⟨w3, hw⟩ : ∃ w3, w2.alloc (.cells z5 31) = w3 := ⟨_, rfl⟩
          rw [hw] at hx hn
          replace HX := Lib.hid (HX.out.trans hx)
          have HP := Lib.hid hn
          replace HQ := Lib.hid (HQ.out.ext hx)
          replace HA := Lib.hid (HA.out.ext hx)
          rw [show w2.alloc (.cells #[.int .i64 0, .int .i64 0, .int .i64 0, .slice none 0 0, .slice none 0 0] 31) = w3 from hw]
          clear hw hx hn
          generalize w2.heap.size = gp at *
          have HNE := Lib.hid (show gp ≠ gq by omega)
          clear hlt
          refine wpAnyH_ready (rs := [15]) (by kernel_rfl) (by simp) (AllReadyH.cons rfl (fun K hK => ?_) AllReadyH.nil)
          · go_simp
            go_at_call 11; refine (HB0.out _ HX.out).mono ?_
            rintro e w4 ⟨F2, f2, G2, g2, rfl, hla, hlb, hk, hx⟩
            replace HX := Lib.hid (HX.out.trans hx)
            have HB := Lib.hid (Lo.mk hla.lies hlb.lies)
            have HKB := Lib.hid hk
            replace HP := Lib.hid (HP.out.ext hx)
            replace HQ := Lib.hid (HQ.out.ext hx)
            replace HA := Lib.hid (HA.out.ext hx)
            clear hla hlb hk hx
            go_wp2_with fail
            refine hK.out _ _ (KT.of HBX.out HX.out) (fun hH => ?_)
            clear hK K hH
            (try simp only [Act.put, List.getElem_toArray, List.getElem_cons_succ, List.getElem_cons_zero, List.setIfInBounds_toArray, List.set_cons_zero, List.set_cons_succ])
            have b0 := HP.out.b.cell 0; have b1 := HP.out.b.cell 1; have b2 := HP.out.b.cell 2; have b3 := HP.out.b.cell 3; have b4 := HP.out.b.cell 4
            have k0 := HP.out.b.frozen 0; have k1 := HP.out.b.frozen 1; have k2 := HP.out.b.frozen 2; have k3 := HP.out.b.frozen 3; have k4 := HP.out.b.frozen 4
            have d0 := HQ.out.b.cell 0; have d1 := HQ.out.b.cell 1; have d2 := HQ.out.b.cell 2; have d3 := HQ.out.b.cell 3; have d4 := HQ.out.b.cell 4
            have m0' := HQ.out.b.frozen 0; have m1 := HQ.out.b.frozen 1; have m2 := HQ.out.b.frozen 2; have m3 := HQ.out.b.frozen 3; have m4 := HQ.out.b.frozen 4
            simp at b0 b1 b2 b3 b4 d0 d1 d2 d3 d4
            have e1 := HNE.out; have e2 := Ne.symm HNE.out
            refine wpAnyH_ready (rs := [18]) (by kernel_rfl) (by simp) (AllReadyH.cons rfl (fun K hK => ?_) AllReadyH.nil)
            go_simp
            refine hK.out _ _ (KT.of HBX.out (ext_stow HX.out HP.out.lo _ _ _ _ _)) (fun hH => ?_)
            clear hK K hH
            (try simp only [Act.put, List.getElem_toArray, List.getElem_cons_succ, List.getElem_cons_zero, List.setIfInBounds_toArray, List.set_cons_zero, List.set_cons_succ])
            refine wpAnyH_ready (rs := [19]) (by kernel_rfl) (by simp) (AllReadyH.cons rfl (fun K hK => ?_) AllReadyH.nil)
            go_simp
            refine hK.out _ _ (KT.of HBX.out (ext_stow (ext_stow HX.out HP.out.lo _ _ _ _ _) HQ.out.lo _ _ _ _ _)) (fun hH => ?_)
            clear hK K hH b0 b1 b2 b3 b4 k0 k1 k2 k3 k4 d0 d1 d2 d3 d4 m0' m1 m2 m3 m4 e1 e2
            (try simp only [Act.put, List.getElem_toArray, List.getElem_cons_succ, List.getElem_cons_zero, List.setIfInBounds_toArray, List.set_cons_zero, List.set_cons_succ])
            refine wpAnyH_done (by kernel_rfl) ?_ _
            refine NoPanic.normal ?_
            go_wp2_with fail
            go_meet
            case rel => exact ⟨gp, gq, F1, f1, G1, g1, F2, f2, G2, g2, rfl, rfl, Lib.hid (two_put f1 g1 f2 g2 HX.out HP.out HQ.out HNE.out HA.out HB.out), Lib.hid (Nat.le_trans (Below.size HX2.out) HQ.out.lo)⟩
    · go_simp
      have hx := Ext.alloc w0 (.cells z5 31)
      have hn := Bk.new HX.out
      refine hK.out _ _ (KT.of HBX.out (HX.out.trans hx)) (fun hH => ?_)
      clear hK K hH
      (try simp only [Act.put, List.getElem_toArray, List.getElem_cons_succ, List.getElem_cons_zero, List.setIfInBounds_toArray, List.set_cons_zero, List.set_cons_succ])
      obtain ⟨w1, hw⟩ : ∃ w1, w0.alloc (.cells z5 31) = w1 := ⟨_, rfl⟩
      rw [hw] at hx hn
      replace HX := Lib.hid (HX.out.trans hx)
      have HP := Lib.hid hn
      rw [show w0.alloc (.cells #[.int .i64 0, .int .i64 0, .int .i64 0, .slice none 0 0, .slice none 0 0] 31) = w1 from hw]
      clear hw hx hn
      generalize w0.heap.size = gp at *
      refine wpAnyH_ready (rs := [7, 17]) (by kernel_rfl) (by simp) (AllReadyH.cons rfl (fun K hK => ?_) (AllReadyH.cons rfl (fun K hK => ?_) AllReadyH.nil))
      · go_simp
        go_at_call 10; refine (HA0.out _ HX.out).mono ?_
        rintro e w2 ⟨F1, f1, G1, g1, rfl, hla, hlb, hk, hx⟩
        replace HX := Lib.hid (HX.out.trans hx)
        have HA := Lib.hid (Lo.mk hla.lies hlb.lies)
        have HKA := Lib.hid hk
        replace HP := Lib.hid (HP.out.ext hx)
        clear hla hlb hk hx
        go_wp2_with fail
        refine hK.out _ _ (KT.of HBX.out HX.out) (fun hH => ?_)
        clear hK K hH
        (try simp only [Act.put, List.getElem_toArray, List.getElem_cons_succ, List.getElem_cons_zero, List.setIfInBounds_toArray, List.set_cons_zero, List.set_cons_succ])
        refine wpAnyH_ready (rs := [15, 17]) (by kernel_rfl) (by simp) (AllReadyH.cons rfl (fun K hK => ?_) (AllReadyH.cons rfl (fun K hK => ?_) AllReadyH.nil))
        · go_simp
          go_at_call 11; refine (HB0.out _ HX.out).mono ?_
          rintro e w3 ⟨F2, f2, G2, g2, rfl, hla, hlb, hk, hx⟩
          replace HX := Lib.hid (HX.out.trans hx)
          have HB := Lib.hid (Lo.mk hla.lies hlb.lies)
          have HKB := Lib.hid hk
          replace HP := Lib.hid (HP.out.ext hx)
          replace HA := Lib.hid (HA.out.ext hx)
          clear hla hlb hk hx
          go_wp2_with fail
          refine hK.out _ _ (KT.of HBX.out HX.out) (fun hH => ?_)
          clear hK K hH
          (try simp only [Act.put, List.getElem_toArray, List.getElem_cons_succ, List.getElem_cons_zero, List.setIfInBounds_toArray, List.set_cons_zero, List.set_cons_succ])
          refine wpAnyH_ready (rs := [17]) (by kernel_rfl) (by simp) (AllReadyH.cons rfl (fun K hK => ?_) AllReadyH.nil)
          · go_simp
            have hx := Ext.alloc w3 (.cells z5 31)
            have hn := Bk.new HX.out
            refine hK.out _ _ (KT.of HBX.out (HX.out.trans hx)) (fun hH => ?_)
            clear hK K hH
            (try simp only [Act.put, List.getElem_toArray, List.getElem_cons_succ, List.getElem_cons_zero, List.setIfInBounds_toArray, List.set_cons_zero, List.set_cons_succ])
            have hlt := HP.out.b.lt
            obtain ⟨w4, hw⟩ : ∃ w4, w3.alloc (.cells z5 31) = w4 := ⟨_, rfl⟩
            rw [hw] at hx hn
            replace HX := Lib.hid (HX.out.trans hx)
            have HQ := Lib.hid hn
            replace HP := Lib.hid (HP.out.ext hx)
            replace HA := Lib.hid (HA.out.ext hx)
            replace HB := Lib.hid (HB.out.ext hx)
            rw [show w3.alloc (.cells #[.int .i64 0, .int .i64 0, .int .i64 0, .slice none 0 0, .slice none 0 0] 31) = w4 from hw]
            clear hw hx hn
            generalize w3.heap.size = gq at *
            have HNE := Lib.hid (show gp ≠ gq by omega)
            clear hlt
            have b0 := HP.out.b.cell 0; have b1 := HP.out.b.cell 1; have b2 := HP.out.b.cell 2; have b3 := HP.out.b.cell 3; have b4 := HP.out.b.cell 4
            have k0 := HP.out.b.frozen 0; have k1 := HP.out.b.frozen 1; have k2 := HP.out.b.frozen 2; have k3 := HP.out.b.frozen 3; have k4 := HP.out.b.frozen 4
            have d0 := HQ.out.b.cell 0; have d1 := HQ.out.b.cell 1; have d2 := HQ.out.b.cell 2; have d3 := HQ.out.b.cell 3; have d4 := HQ.out.b.cell 4
            have m0' := HQ.out.b.frozen 0; have m1 := HQ.out.b.frozen 1; have m2 := HQ.out.b.frozen 2; have m3 := HQ.out.b.frozen 3; have m4 := HQ.out.b.frozen 4
            simp at b0 b1 b2 b3 b4 d0 d1 d2 d3 d4
            have e1 := HNE.out; have e2 := Ne.symm HNE.out
            refine wpAnyH_ready (rs := [18]) (by kernel_rfl) (by simp) (AllReadyH.cons rfl (fun K hK => ?_) AllReadyH.nil)
            go_simp
            refine hK.out _ _ (KT.of HBX.out (ext_stow HX.out HP.out.lo _ _ _ _ _)) (fun hH => ?_)
            clear hK K hH
            (try simp only [Act.put, List.getElem_toArray, List.getElem_cons_succ, List.getElem_cons_zero, List.setIfInBounds_toArray, List.set_cons_zero, List.set_cons_succ])
            refine wpAnyH_ready (rs := [19]) (by kernel_rfl) (by simp) (AllReadyH.cons rfl (fun K hK => ?_) AllReadyH.nil)
            go_simp
            refine hK.out _ _ (KT.of HBX.out (ext_stow (ext_stow HX.out HP.out.lo _ _ _ _ _) HQ.out.lo _ _ _ _ _)) (fun hH => ?_)
            clear hK K hH b0 b1 b2 b3 b4 k0 k1 k2 k3 k4 d0 d1 d2 d3 d4 m0' m1 m2 m3 m4 e1 e2
            (try simp only [Act.put, List.getElem_toArray, List.getElem_cons_succ, List.getElem_cons_zero, List.setIfInBounds_toArray, List.set_cons_zero, List.set_cons_succ])
            refine wpAnyH_done (by kernel_rfl) ?_ _
            refine NoPanic.normal ?_
            go_wp2_with fail
            go_meet
            case rel => exact ⟨gp, gq, F1, f1, G1, g1, F2, f2, G2, g2, rfl, rfl, Lib.hid (two_put f1 g1 f2 g2 HX.out HP.out HQ.out HNE.out HA.out HB.out), Lib.hid (Nat.le_trans (Below.size HX2.out) HQ.out.lo)⟩
        · go_simp
          have hx := Ext.alloc w2 (.cells z5 31)
          have hn := Bk.new HX.out
          refine hK.out _ _ (KT.of HBX.out (HX.out.trans hx)) (fun hH => ?_)
          clear hK K hH
          (try simp only [Act.put, List.getElem_toArray, List.getElem_cons_succ, List.getElem_cons_zero, List.setIfInBounds_toArray, List.set_cons_zero, List.set_cons_succ])
          have hlt := HP.out.b.lt
          obtain ⟨w3, hw⟩ : ∃ w3, w2.alloc (.cells z5 31) = w3 := ⟨_, rfl⟩
          rw [hw] at hx hn
          replace HX := Lib.hid (HX.out.trans hx)
          have HQ := Lib.hid hn
          replace HP := Lib.hid (HP.out.ext hx)
          replace HA := Lib.hid (HA.out.ext hx)
          rw [show w2.alloc (.cells #[.int .i64 0, .int .i64 0, .int .i64 0, .slice none 0 0, .slice none 0 0] 31) = w3 from hw]
          clear hw hx hn
          generalize w2.heap.size = gq at *
          have HNE := Lib.hid (show gp ≠ gq by omega)
          clear hlt
          refine wpAnyH_ready (rs := [15]) (by kernel_rfl) (by simp) (AllReadyH.cons rfl (fun K hK => ?_) AllReadyH.nil)
          · go_simp
            go_at_call 11; refine (HB0.out _ HX.out).mono ?_
            rintro e w4 ⟨F2, f2, G2, g2, rfl, hla, hlb, hk, hx⟩
            replace HX := Lib.hid (HX.out.trans hx)
            have HB := Lib.hid (Lo.mk hla.lies hlb.lies)
            have HKB := Lib.hid hk
            replace HP := Lib.hid (HP.out.ext hx)
            replace HQ := Lib.hid (HQ.out.ext hx)
            replace HA := Lib.hid (HA.out.ext hx)
            clear hla hlb hk hx
            go_wp2_with fail
            refine hK.out _ _ (KT.of HBX.out HX.out) (fun hH => ?_)
            clear hK K hH
            (try simp only [Act.put, List.getElem_toArray, List.getElem_cons_succ, List.getElem_cons_zero, List.setIfInBounds_toArray, List.set_cons_zero, List.set_cons_succ])
            have b0 := HP.out.b.cell 0; have b1 := HP.out.b.cell 1; have b2 := HP.out.b.cell 2; have b3 := HP.out.b.cell 3; have b4 := HP.out.b.cell 4
            have k0 := HP.out.b.frozen 0; have k1 := HP.out.b.frozen 1; have k2 := HP.out.b.frozen 2; have k3 := HP.out.b.frozen 3; have k4 := HP.out.b.frozen 4
            have d0 := HQ.out.b.cell 0; have d1 := HQ.out.b.cell 1; have d2 := HQ.out.b.cell 2; have d3 := HQ.out.b.cell 3; have d4 := HQ.out.b.cell 4
            have m0' := HQ.out.b.frozen 0; have m1 := HQ.out.b.frozen 1; have m2 := HQ.out.b.frozen 2; have m3 := HQ.out.b.frozen 3; have m4 := HQ.out.b.frozen 4
            simp at b0 b1 b2 b3 b4 d0 d1 d2 d3 d4
            have e1 := HNE.out; have e2 := Ne.symm HNE.out
            refine wpAnyH_ready (rs := [18]) (by kernel_rfl) (by simp) (AllReadyH.cons rfl (fun K hK => ?_) AllReadyH.nil)
            go_simp
            refine hK.out _ _ (KT.of HBX.out (ext_stow HX.out HP.out.lo _ _ _ _ _)) (fun hH => ?_)
            clear hK K hH
            (try simp only [Act.put, List.getElem_toArray, List.getElem_cons_succ, List.getElem_cons_zero, List.setIfInBounds_toArray, List.set_cons_zero, List.set_cons_succ])
            refine wpAnyH_ready (rs := [19]) (by kernel_rfl) (by simp) (AllReadyH.cons rfl (fun K hK => ?_) AllReadyH.nil)
            go_simp
            refine hK.out _ _ (KT.of HBX.out (ext_stow (ext_stow HX.out HP.out.lo _ _ _ _ _) HQ.out.lo _ _ _ _ _)) (fun hH => ?_)
            clear hK K hH b0 b1 b2 b3 b4 k0 k1 k2 k3 k4 d0 d1 d2 d3 d4 m0' m1 m2 m3 m4 e1 e2
            (try simp only [Act.put, List.getElem_toArray, List.getElem_cons_succ, List.getElem_cons_zero, List.setIfInBounds_toArray, List.set_cons_zero, List.set_cons_succ])
            refine wpAnyH_done (by kernel_rfl) ?_ _
            refine NoPanic.normal ?_
            go_wp2_with fail
            go_meet
            case rel => exact ⟨gp, gq, F1, f1, G1, g1, F2, f2, G2, g2, rfl, rfl, Lib.hid (two_put f1 g1 f2 g2 HX.out HP.out HQ.out HNE.out HA.out HB.out), Lib.hid (Nat.le_trans (Below.size HX2.out) HQ.out.lo)⟩
      · go_simp
        have hx := Ext.alloc w1 (.cells z5 31)
        have hn := Bk.new HX.out
        refine hK.out _ _ (KT.of HBX.out (HX.out.trans hx)) (fun hH => ?_)
        clear hK K hH
        (try simp only [Act.put, List.getElem_toArray, List.getElem_cons_succ, List.getElem_cons_zero, List.setIfInBounds_toArray, List.set_cons_zero, List.set_cons_succ])
        have hlt := HP.out.b.lt
        obtain ⟨w2, hw⟩ : ∃ w2, w1.alloc (.cells z5 31) = w2 := ⟨_, rfl⟩
        rw [hw] at hx hn
        replace HX := Lib.hid (HX.out.trans hx)
        have HQ := Lib.hid hn
        replace HP := Lib.hid (HP.out.ext hx)
        rw [show w1.alloc (.cells #[.int .i64 0, .int .i64 0, .int .i64 0, .slice none 0 0, .slice none 0 0] 31) = w2 from hw]
        clear hw hx hn
        generalize w1.heap.size = gq at *
        have HNE := Lib.hid (show gp ≠ gq by omega)
        clear hlt
        refine wpAnyH_ready (rs := [7]) (by kernel_rfl) (by simp) (AllReadyH.cons rfl (fun K hK => ?_) AllReadyH.nil)
        · go_simp
          go_at_call 10; refine (HA0.out _ HX.out).mono ?_
          rintro e w3 ⟨F1, f1, G1, g1, rfl, hla, hlb, hk, hx⟩
          replace HX := Lib.hid (HX.out.trans hx)
          have HA := Lib.hid (Lo.mk hla.lies hlb.lies)
          have HKA := Lib.hid hk
          replace HP := Lib.hid (HP.out.ext hx)
          replace HQ := Lib.hid (HQ.out.ext hx)
          clear hla hlb hk hx
          go_wp2_with fail
          refine hK.out _ _ (KT.of HBX.out HX.out) (fun hH => ?_)
          clear hK K hH
          (try simp only [Act.put, List.getElem_toArray, List.getElem_cons_succ, List.getElem_cons_zero, List.setIfInBounds_toArray, List.set_cons_zero, List.set_cons_succ])
          refine wpAnyH_ready (rs := [15]) (by kernel_rfl) (by simp) (AllReadyH.cons rfl (fun K hK => ?_) AllReadyH.nil)
          · go_simp
            go_at_call 11; refine (HB0.out _ HX.out).mono ?_
            rintro e w4 ⟨F2, f2, G2, g2, rfl, hla, hlb, hk, hx⟩
            replace HX := Lib.hid (HX.out.trans hx)
            have HB := Lib.hid (Lo.mk hla.lies hlb.lies)
            have HKB := Lib.hid hk
            replace HP := Lib.hid (HP.out.ext hx)
            replace HQ := Lib.hid (HQ.out.ext hx)
            replace HA := Lib.hid (HA.out.ext hx)
            clear hla hlb hk hx
            go_wp2_with fail
            refine hK.out _ _ (KT.of HBX.out HX.out) (fun hH => ?_)
            clear hK K hH
            (try simp only [Act.put, List.getElem_toArray, List.getElem_cons_succ, List.getElem_cons_zero, List.setIfInBounds_toArray, List.set_cons_zero, List.set_cons_succ])
            have b0 := HP.out.b.cell 0; have b1 := HP.out.b.cell 1; have b2 := HP.out.b.cell 2; have b3 := HP.out.b.cell 3; have b4 := HP.out.b.cell 4
            have k0 := HP.out.b.frozen 0; have k1 := HP.out.b.frozen 1; have k2 := HP.out.b.frozen 2; have k3 := HP.out.b.frozen 3; have k4 := HP.out.b.frozen 4
            have d0 := HQ.out.b.cell 0; have d1 := HQ.out.b.cell 1; have d2 := HQ.out.b.cell 2; have d3 := HQ.out.b.cell 3; have d4 := HQ.out.b.cell 4
            have m0' := HQ.out.b.frozen 0; have m1 := HQ.out.b.frozen 1; have m2 := HQ.out.b.frozen 2; have m3 := HQ.out.b.frozen 3; have m4 := HQ.out.b.frozen 4
            simp at b0 b1 b2 b3 b4 d0 d1 d2 d3 d4
            have e1 := HNE.out; have e2 := Ne.symm HNE.out
            refine wpAnyH_ready (rs := [18]) (by kernel_rfl) (by simp) (AllReadyH.cons rfl (fun K hK => ?_) AllReadyH.nil)
            go_simp
            refine hK.out _ _ (KT.of HBX.out (ext_stow HX.out HP.out.lo _ _ _ _ _)) (fun hH => ?_)
            clear hK K hH
            (try simp only [Act.put, List.getElem_toArray, List.getElem_cons_succ, List.getElem_cons_zero, List.setIfInBounds_toArray, List.set_cons_zero, List.set_cons_succ])
            refine wpAnyH_ready (rs := [19]) (by kernel_rfl) (by simp) (AllReadyH.cons rfl (fun K hK => ?_) AllReadyH.nil)
            go_simp
            refine hK.out _ _ (KT.of HBX.out (ext_stow (ext_stow HX.out HP.out.lo _ _ _ _ _) HQ.out.lo _ _ _ _ _)) (fun hH => ?_)
            clear hK K hH b0 b1 b2 b3 b4 k0 k1 k2 k3 k4 d0 d1 d2 d3 d4 m0' m1 m2 m3 m4 e1 e2
            (try simp only [Act.put, List.getElem_toArray, List.getElem_cons_succ, List.getElem_cons_zero, List.setIfInBounds_toArray, List.set_cons_zero, List.set_cons_succ])
            refine wpAnyH_done (by kernel_rfl) ?_ _
            refine NoPanic.normal ?_
            go_wp2_with fail
            go_meet
            case rel => exact ⟨gp, gq, F1, f1, G1, g1, F2, f2, G2, g2, rfl, rfl, Lib.hid (two_put f1 g1 f2 g2 HX.out HP.out HQ.out HNE.out HA.out HB.out), Lib.hid (Nat.le_trans (Below.size HX2.out) HQ.out.lo)⟩
    · go_simp
      have hx := Ext.alloc w0 (.cells z5 31)
      have hn := Bk.new HX.out
      refine hK.out _ _ (KT.of HBX.out (HX.out.trans hx)) (fun hH => ?_)
      clear hK K hH
      (try simp only [Act.put, List.getElem_toArray, List.getElem_cons_succ, List.getElem_cons_zero, List.setIfInBounds_toArray, List.set_cons_zero, List.set_cons_succ])
      obtain ⟨w1, hw⟩ : ∃ w1, w0.alloc (.cells z5 31) = w1 := ⟨_, rfl⟩
      rw [hw] at hx hn
      replace HX := Lib.hid (HX.out.trans hx)
      have HQ := Lib.hid hn
      rw [show w0.alloc (.cells #[.int .i64 0, .int .i64 0, .int .i64 0, .slice none 0 0, .slice none 0 0] 31) = w1 from hw]
      clear hw hx hn
      generalize w0.heap.size = gq at *
      refine wpAnyH_ready (rs := [7, 16]) (by kernel_rfl) (by simp) (AllReadyH.cons rfl (fun K hK => ?_) (AllReadyH.cons rfl (fun K hK => ?_) AllReadyH.nil))
      · go_simp
        go_at_call 10; refine (HA0.out _ HX.out).mono ?_
        rintro e w2 ⟨F1, f1, G1, g1, rfl, hla, hlb, hk, hx⟩
        replace HX := Lib.hid (HX.out.trans hx)
        have HA := Lib.hid (Lo.mk hla.lies hlb.lies)
        have HKA := Lib.hid hk
        replace HQ := Lib.hid (HQ.out.ext hx)
        clear hla hlb hk hx
        go_wp2_with fail
        refine hK.out _ _ (KT.of HBX.out HX.out) (fun hH => ?_)
        clear hK K hH
        (try simp only [Act.put, List.getElem_toArray, List.getElem_cons_succ, List.getElem_cons_zero, List.setIfInBounds_toArray, List.set_cons_zero, List.set_cons_succ])
        refine wpAnyH_ready (rs := [15, 16]) (by kernel_rfl) (by simp) (AllReadyH.cons rfl (fun K hK => ?_) (AllReadyH.cons rfl (fun K hK => ?_) AllReadyH.nil))
        · go_simp
          go_at_call 11; refine (HB0.out _ HX.out).mono ?_
          rintro e w3 ⟨F2, f2, G2, g2, rfl, hla, hlb, hk, hx⟩
          replace HX := Lib.hid (HX.out.trans hx)
          have HB := Lib.hid (Lo.mk hla.lies hlb.lies)
          have HKB := Lib.hid hk
          replace HQ := Lib.hid (HQ.out.ext hx)
          replace HA := Lib.hid (HA.out.ext hx)
          clear hla hlb hk hx
          go_wp2_with fail
          refine hK.out _ _ (KT.of HBX.out HX.out) (fun hH => ?_)
          clear hK K hH
          (try simp only [Act.put, List.getElem_toArray, List.getElem_cons_succ, List.getElem_cons_zero, List.setIfInBounds_toArray, List.set_cons_zero, List.set_cons_succ])
          refine wpAnyH_ready (rs := [16]) (by kernel_rfl) (by simp) (AllReadyH.cons rfl (fun K hK => ?_) AllReadyH.nil)
          · go_simp
            have hx := Ext.alloc w3 (.cells z5 31)
            have hn := Bk.new HX.out
            refine hK.out _ _ (KT.of HBX.out (HX.out.trans hx)) (fun hH => ?_)
            clear hK K hH
            (try simp only [Act.put, List.getElem_toArray, List.getElem_cons_succ, List.getElem_cons_zero, List.setIfInBounds_toArray, List.set_cons_zero, List.set_cons_succ])
            have hlt := HQ.out.b.lt
            obtain ⟨w4, hw⟩ : ∃ w4, w3.alloc (.cells z5 31) = w4 := ⟨_, rfl⟩
            rw [hw] at hx hn
            replace HX := Lib.hid (HX.out.trans hx)
            have HP := Lib.hid hn
            replace HQ := Lib.hid (HQ.out.ext hx)
            replace HA := Lib.hid (HA.out.ext hx)
            replace HB := Lib.hid (HB.out.ext hx)
            rw [show w3.alloc (.cells #[.int .i64 0, .int .i64 0, .int .i64 0, .slice none 0 0, .slice none 0 0] 31) = w4 from hw]
            clear hw hx hn
            generalize w3.heap.size = gp at *
            have HNE := Lib.hid (show gp ≠ gq by omega)
            clear hlt
            have b0 := HP.out.b.cell 0; have b1 := HP.out.b.cell 1; have b2 := HP.out.b.cell 2; have b3 := HP.out.b.cell 3; have b4 := HP.out.b.cell 4
            have k0 := HP.out.b.frozen 0; have k1 := HP.out.b.frozen 1; have k2 := HP.out.b.frozen 2; have k3 := HP.out.b.frozen 3; have k4 := HP.out.b.frozen 4
            have d0 := HQ.out.b.cell 0; have d1 := HQ.out.b.cell 1; have d2 := HQ.out.b.cell 2; have d3 := HQ.out.b.cell 3; have d4 := HQ.out.b.cell 4
            have m0' := HQ.out.b.frozen 0; have m1 := HQ.out.b.frozen 1; have m2 := HQ.out.b.frozen 2; have m3 := HQ.out.b.frozen 3; have m4 := HQ.out.b.frozen 4
            simp at b0 b1 b2 b3 b4 d0 d1 d2 d3 d4
            have e1 := HNE.out; have e2 := Ne.symm HNE.out
            refine wpAnyH_ready (rs := [18]) (by kernel_rfl) (by simp) (AllReadyH.cons rfl (fun K hK => ?_) AllReadyH.nil)
            go_simp
            refine hK.out _ _ (KT.of HBX.out (ext_stow HX.out HP.out.lo _ _ _ _ _)) (fun hH => ?_)
            clear hK K hH
            (try simp only [Act.put, List.getElem_toArray, List.getElem_cons_succ, List.getElem_cons_zero, List.setIfInBounds_toArray, List.set_cons_zero, List.set_cons_succ])
            refine wpAnyH_ready (rs := [19]) (by kernel_rfl) (by simp) (AllReadyH.cons rfl (fun K hK => ?_) AllReadyH.nil)
            go_simp
            refine hK.out _ _ (KT.of HBX.out (ext_stow (ext_stow HX.out HP.out.lo _ _ _ _ _) HQ.out.lo _ _ _ _ _)) (fun hH => ?_)
            clear hK K hH b0 b1 b2 b3 b4 k0 k1 k2 k3 k4 d0 d1 d2 d3 d4 m0' m1 m2 m3 m4 e1 e2
            (try simp only [Act.put, List.getElem_toArray, List.getElem_cons_succ, List.getElem_cons_zero, List.setIfInBounds_toArray, List.set_cons_zero, List.set_cons_succ])
            refine wpAnyH_done (by kernel_rfl) ?_ _
            refine NoPanic.normal ?_
            go_wp2_with fail
            go_meet
            case rel => exact ⟨gp, gq, F1, f1, G1, g1, F2, f2, G2, g2, rfl, rfl, Lib.hid (two_put f1 g1 f2 g2 HX.out HP.out HQ.out HNE.out HA.out HB.out), Lib.hid (Nat.le_trans (Below.size HX2.out) HQ.out.lo)⟩
        · go_simp
          have hx := Ext.alloc w2 (.cells z5 31)
          have hn := Bk.new HX.out
          refine hK.out _ _ (KT.of HBX.out (HX.out.trans hx)) (fun hH => ?_)
          clear hK K hH
          (try simp only [Act.put, List.getElem_toArray, List.getElem_cons_succ, List.getElem_cons_zero, List.setIfInBounds_toArray, List.set_cons_zero, List.set_cons_succ])
          have hlt := HQ.out.b.lt
          obtain ⟨w3, hw⟩ : ∃ w3, w2.alloc (.cells z5 31) = w3 := ⟨_, rfl⟩
          rw [hw] at hx hn
          replace HX := Lib.hid (HX.out.trans hx)
          have HP := Lib.hid hn
          replace HQ := Lib.hid (HQ.out.ext hx)
          replace HA := Lib.hid (HA.out.ext hx)
          rw [show w2.alloc (.cells #[.int .i64 0, .int .i64 0, .int .i64 0, .slice none 0 0, .slice none 0 0] 31) = w3 from hw]
          clear hw hx hn
          generalize w2.heap.size = gp at *
          have HNE := Lib.hid (show gp ≠ gq by omega)
          clear hlt
          refine wpAnyH_ready (rs := [15]) (by kernel_rfl) (by simp) (AllReadyH.cons rfl (fun K hK => ?_) AllReadyH.nil)
          · go_simp
            go_at_call 11; refine (HB0.out _ HX.out).mono ?_
            rintro e w4 ⟨F2, f2, G2, g2, rfl, hla, hlb, hk, hx⟩
            replace HX := Lib.hid (HX.out.trans hx)
            have HB := Lib.hid (Lo.mk hla.lies hlb.lies)
            have HKB := Lib.hid hk
            replace HP := Lib.hid (HP.out.ext hx)
            replace HQ := Lib.hid (HQ.out.ext hx)
            replace HA := Lib.hid (HA.out.ext hx)
            clear hla hlb hk hx
            go_wp2_with fail
            refine hK.out _ _ (KT.of HBX.out HX.out) (fun hH => ?_)
            clear hK K hH
            (try simp only [Act.put, List.getElem_toArray, List.getElem_cons_succ, List.getElem_cons_zero, List.setIfInBounds_toArray, List.set_cons_zero, List.set_cons_succ])
            have b0 := HP.out.b.cell 0; have b1 := HP.out.b.cell 1; have b2 := HP.out.b.cell 2; have b3 := HP.out.b.cell 3; have b4 := HP.out.b.cell 4
            have k0 := HP.out.b.frozen 0; have k1 := HP.out.b.frozen 1; have k2 := HP.out.b.frozen 2; have k3 := HP.out.b.frozen 3; have k4 := HP.out.b.frozen 4
            have d0 := HQ.out.b.cell 0; have d1 := HQ.out.b.cell 1; have d2 := HQ.out.b.cell 2; have d3 := HQ.out.b.cell 3; have d4 := HQ.out.b.cell 4
            have m0' := HQ.out.b.frozen 0; have m1 := HQ.out.b.frozen 1; have m2 := HQ.out.b.frozen 2; have m3 := HQ.out.b.frozen 3; have m4 := HQ.out.b.frozen 4
            simp at b0 b1 b2 b3 b4 d0 d1 d2 d3 d4
            have e1 := HNE.out; have e2 := Ne.symm HNE.out
            refine wpAnyH_ready (rs := [18]) (by kernel_rfl) (by simp) (AllReadyH.cons rfl (fun K hK => ?_) AllReadyH.nil)
            go_simp
            refine hK.out _ _ (KT.of HBX.out (ext_stow HX.out HP.out.lo _ _ _ _ _)) (fun hH => ?_)
            clear hK K hH
            (try simp only [Act.put, List.getElem_toArray, List.getElem_cons_succ, List.getElem_cons_zero, List.setIfInBounds_toArray, List.set_cons_zero, List.set_cons_succ])
            refine wpAnyH_ready (rs := [19]) (by kernel_rfl) (by simp) (AllReadyH.cons rfl (fun K hK => ?_) AllReadyH.nil)
            go_simp
            refine hK.out _ _ (KT.of HBX.out (ext_stow (ext_stow HX.out HP.out.lo _ _ _ _ _) HQ.out.lo _ _ _ _ _)) (fun hH => ?_)
            clear hK K hH b0 b1 b2 b3 b4 k0 k1 k2 k3 k4 d0 d1 d2 d3 d4 m0' m1 m2 m3 m4 e1 e2
            (try simp only [Act.put, List.getElem_toArray, List.getElem_cons_succ, List.getElem_cons_zero, List.setIfInBounds_toArray, List.set_cons_zero, List.set_cons_succ])
            refine wpAnyH_done (by kernel_rfl) ?_ _
            refine NoPanic.normal ?_
            go_wp2_with fail
            go_meet
            case rel => exact ⟨gp, gq, F1, f1, G1, g1, F2, f2, G2, g2, rfl, rfl, Lib.hid (two_put f1 g1 f2 g2 HX.out HP.out HQ.out HNE.out HA.out HB.out), Lib.hid (Nat.le_trans (Below.size HX2.out) HQ.out.lo)⟩
      · go_simp
        have hx := Ext.alloc w1 (.cells z5 31)
        have hn := Bk.new HX.out
        refine hK.out _ _ (KT.of HBX.out (HX.out.trans hx)) (fun hH => ?_)
        clear hK K hH
        (try simp only [Act.put, List.getElem_toArray, List.getElem_cons_succ, List.getElem_cons_zero, List.setIfInBounds_toArray, List.set_cons_zero, List.set_cons_succ])
        have hlt := HQ.out.b.lt
        obtain ⟨w2, hw⟩ : ∃ w2, w1.alloc (.cells z5 31) = w2 := ⟨_, rfl⟩
        rw [hw] at hx hn
        replace HX := Lib.hid (HX.out.trans hx)
        have HP := Lib.hid hn
        replace HQ := Lib.hid (HQ.out.ext hx)
        rw [show w1.alloc (.cells #[.int .i64 0, .int .i64 0, .int .i64 0, .slice none 0 0, .slice none 0 0] 31) = w2 from hw]
        clear hw hx hn
        generalize w1.heap.size = gp at *
        have HNE := Lib.hid (show gp ≠ gq by omega)
        clear hlt
        refine wpAnyH_ready (rs := [7]) (by kernel_rfl) (by simp) (AllReadyH.cons rfl (fun K hK => ?_) AllReadyH.nil)
        · go_simp
          go_at_call 10; refine (HA0.out _ HX.out).mono ?_
          rintro e w3 ⟨F1, f1, G1, g1, rfl, hla, hlb, hk, hx⟩
          replace HX := Lib.hid (HX.out.trans hx)
          have HA := Lib.hid (Lo.mk hla.lies hlb.lies)
          have HKA := Lib.hid hk
          replace HP := Lib.hid (HP.out.ext hx)
          replace HQ := Lib.hid (HQ.out.ext hx)
          clear hla hlb hk hx
          go_wp2_with fail
          refine hK.out _ _ (KT.of HBX.out HX.out) (fun hH => ?_)
          clear hK K hH
          (try simp only [Act.put, List.getElem_toArray, List.getElem_cons_succ, List.getElem_cons_zero, List.setIfInBounds_toArray, List.set_cons_zero, List.set_cons_succ])
          refine wpAnyH_ready (rs := [15]) (by kernel_rfl) (by simp) (AllReadyH.cons rfl (fun K hK => ?_) AllReadyH.nil)
          · go_simp
            go_at_call 11; refine (HB0.out _ HX.out).mono ?_
            rintro e w4 ⟨F2, f2, G2, g2, rfl, hla, hlb, hk, hx⟩
            replace HX := Lib.hid (HX.out.trans hx)
            have HB := Lib.hid (Lo.mk hla.lies hlb.lies)
            have HKB := Lib.hid hk
            replace HP := Lib.hid (HP.out.ext hx)
            replace HQ := Lib.hid (HQ.out.ext hx)
            replace HA := Lib.hid (HA.out.ext hx)
            clear hla hlb hk hx
            go_wp2_with fail
            refine hK.out _ _ (KT.of HBX.out HX.out) (fun hH => ?_)
            clear hK K hH
            (try simp only [Act.put, List.getElem_toArray, List.getElem_cons_succ, List.getElem_cons_zero, List.setIfInBounds_toArray, List.set_cons_zero, List.set_cons_succ])
            have b0 := HP.out.b.cell 0; have b1 := HP.out.b.cell 1; have b2 := HP.out.b.cell 2; have b3 := HP.out.b.cell 3; have b4 := HP.out.b.cell 4
            have k0 := HP.out.b.frozen 0; have k1 := HP.out.b.frozen 1; have k2 := HP.out.b.frozen 2; have k3 := HP.out.b.frozen 3; have k4 := HP.out.b.frozen 4
            have d0 := HQ.out.b.cell 0; have d1 := HQ.out.b.cell 1; have d2 := HQ.out.b.cell 2; have d3 := HQ.out.b.cell 3; have d4 := HQ.out.b.cell 4
            have m0' := HQ.out.b.frozen 0; have m1 := HQ.out.b.frozen 1; have m2 := HQ.out.b.frozen 2; have m3 := HQ.out.b.frozen 3; have m4 := HQ.out.b.frozen 4
            simp at b0 b1 b2 b3 b4 d0 d1 d2 d3 d4
            have e1 := HNE.out; have e2 := Ne.symm HNE.out
            refine wpAnyH_ready (rs := [18]) (by kernel_rfl) (by simp) (AllReadyH.cons rfl (fun K hK => ?_) AllReadyH.nil)
            go_simp
            refine hK.out _ _ (KT.of HBX.out (ext_stow HX.out HP.out.lo _ _ _ _ _)) (fun hH => ?_)
            clear hK K hH
            (try simp only [Act.put, List.getElem_toArray, List.getElem_cons_succ, List.getElem_cons_zero, List.setIfInBounds_toArray, List.set_cons_zero, List.set_cons_succ])
            refine wpAnyH_ready (rs := [19]) (by kernel_rfl) (by simp) (AllReadyH.cons rfl (fun K hK => ?_) AllReadyH.nil)
            go_simp
            refine hK.out _ _ (KT.of HBX.out (ext_stow (ext_stow HX.out HP.out.lo _ _ _ _ _) HQ.out.lo _ _ _ _ _)) (fun hH => ?_)
            clear hK K hH b0 b1 b2 b3 b4 k0 k1 k2 k3 k4 d0 d1 d2 d3 d4 m0' m1 m2 m3 m4 e1 e2
            (try simp only [Act.put, List.getElem_toArray, List.getElem_cons_succ, List.getElem_cons_zero, List.setIfInBounds_toArray, List.set_cons_zero, List.set_cons_succ])
            refine wpAnyH_done (by kernel_rfl) ?_ _
            refine NoPanic.normal ?_
            go_wp2_with fail
            go_meet
            case rel => exact ⟨gp, gq, F1, f1, G1, g1, F2, f2, G2, g2, rfl, rfl, Lib.hid (two_put f1 g1 f2 g2 HX.out HP.out HQ.out HNE.out HA.out HB.out), Lib.hid (Nat.le_trans (Below.size HX2.out) HQ.out.lo)⟩
  case rest =>
  obtain ⟨gp, gq, F1, f1, G1, g1, F2, f2, G2, g2, rfl, rfl, HTW, HQLO⟩ := hcut
  clear HA0 HB0 HF
  have HX4 := Lib.hid (HX2.out.trans HTW.out.e)
  have x0 := (HBX.out.ext HTW.out.e).b.cell 0; have x1 := (HBX.out.ext HTW.out.e).b.cell 1; have x2 := (HBX.out.ext HTW.out.e).b.cell 2
  simp at x0 x1 x2
  go_wp2_with fail
  refine (HQ0.out wc HTW.out.e).mono ?_
  rintro e w5 ⟨F3, f3, G3, g3, rfl, hla, hlb, hk5, hx5⟩
  have HO := Lib.hid (ob_new f3 g3 hla hlb)
  have hx6 := hx5.trans (Ext.alloc w5 (.cells (oC R.ls.length R.m.d R.er (.slice F3 R.m.W.length f3) (.slice G3 (tl false R.ls).length g3)) 31))
  have HOX := Lib.hid (HTW.out.x.ext hx6); have HOY := Lib.hid (HTW.out.y.ext hx6); have HX6 := Lib.hid (HX4.out.trans hx6)
  have HYO := Lib.hid (show gq < w5.heap.size from Nat.lt_of_lt_of_le HTW.out.y.b.lt (Below.size hx5))
  clear hla hlb hk5 hx5 x0 x1 x2 hx6 HQ0
  go_upto_region 4 with fail
  change Code.wp _ _ _ _ (w5.alloc (.cells (oC R.ls.length R.m.d R.er (.slice F3 R.m.W.length f3) (.slice G3 (tl false R.ls).length g3)) 31))
  generalize w5.alloc (.cells (oC R.ls.length R.m.d R.er (.slice F3 R.m.W.length f3) (.slice G3 (tl false R.ls).length g3)) 31) = w6 at *
  generalize w5.heap.size = q5 at *
  have x0 := HOX.out.b.cell 0; have x1 := HOX.out.b.cell 1; have x2 := HOX.out.b.cell 2; have x3 := HOX.out.b.cell 3; have x4 := HOX.out.b.cell 4
  have y0 := HOY.out.b.cell 0; have y1 := HOY.out.b.cell 1; have y2 := HOY.out.b.cell 2; have y3 := HOY.out.b.cell 3; have y4 := HOY.out.b.cell 4
  simp at x0 x1 x2 x3 x4 y0 y1 y2 y3 y4
  go_wp2_with fail
  refine (sameO R.ls.length R.m.d R.er F1 F2 G1 G2 f1 f2 g1 g2 R.m.W (tl true R.ls) w6 HOX.out.la HOY.out.la HOX.out.lb HOY.out.lb HTT.out HLN.out).mono ?_
  rintro en w7 ⟨rfl, hb⟩
  have HX7 := Lib.hid (HX6.out.trans hb)
  have HOQ := Lib.hid (HO.out.ext hb); have HOZ := Lib.hid (HOY.out.ext hb)
  clear hb x0 x1 x2 x3 x4 y0 y1 y2 y3 y4 HO HOX HOY
  have v4 : w7.cell? ⟨q5, 4, none⟩ = some (.slice G3 0 g3) := HOQ.out.b.cell 4
  have y4 := HOZ.out.b.cell 4; have k4 := HOZ.out.b.frozen 4
  simp at y4
  go_upto_region 7 with fail
  have hup : Upd (· = gq) w7 (w7.setCell ⟨gq, 4, none⟩ (.slice none 0 0)) := upd_set _ _ 4 _ (Upd.refl _ w7)
  have hne : q5 ≠ gq := by have := HYO.out; omega
  have hbz := HOZ.out.b.set 4 (.slice none 0 0)
  have hbq := HOQ.out.b.upd hup hne
  have hlq := lies_keep HOZ.out.b (oc_no _ _ _ _ _ _ _ _ _) HOQ.out.la (first_w _) 4 (.slice none 0 0)
  have hlz := lies_keep HOZ.out.b (oc_no _ _ _ _ _ _ _ _ _) HOZ.out.la (first_w _) 4 (.slice none 0 0)
  have hlow : W.heap.size ≤ gq := HQLO.out
  have HX8 := Lib.hid (ext_setl HX7.out hlow 4 (.slice none 0 0))
  have HBZ := Lib.hid hbz; have HBQ := Lib.hid hbq; have HLQ := Lib.hid hlq; have HLZ := Lib.hid hlz
  clear hup hne hbz hbq hlq hlz hlow v4 y4 k4 HX7 HOQ HOZ
  generalize w7.setCell ⟨gq, 4, none⟩ (.slice none 0 0) = w8 at *
  have x0 := HBQ.out.cell 0; have x1 := HBQ.out.cell 1; have x2 := HBQ.out.cell 2; have x3 := HBQ.out.cell 3
  have x4 : w8.cell? ⟨q5, 4, none⟩ = some (.slice G3 0 g3) := HBQ.out.cell 4
  have y0 := HBZ.out.cell 0; have y1 := HBZ.out.cell 1; have y2 := HBZ.out.cell 2; have y3 := HBZ.out.cell 3; have y4 := HBZ.out.cell 4
  simp at x0 x1 x2 x3 y0 y1 y2 y3 y4
  go_wp2_with fail
  refine (sameO R.ls.length R.m.d R.er F3 F2 G3 none f3 f2 g3 0 R.m.W [] w8 HLQ.out HLZ.out (Lies.nil _ _) (Lies.nil _ _) HTT.out (by decide)).mono ?_
  rintro en w9 ⟨rfl, hb⟩
  have HX9 := Lib.hid (HX8.out.trans hb)
  clear hb x0 x1 x2 x3 x4 y0 y1 y2 y3 y4
  go_wp2_with fail
  refine (lives w9 (HT.out.below HX9.out)).mono ?_
  rintro en w10 ⟨rfl, hb⟩
  have HX10 := Lib.hid (HX9.out.trans (show Ext w9 w10 from hb))
  clear hb
  go_wp2_with fail
  go_ret
  exact ⟨rfl, HX10.out⟩
end Go.Proofs.YtkafmpdjpjgkgaaDoor.Rn
