/- DERIVED. RnBd in one text. By an AI agent. -/
import Derived.Test.YtkafmpdjpjgkgaaDoorZ35
/- DERIVED. The walk of RunBounds. By an AI agent. -/
namespace Go.Proofs.YtkafmpdjpjgkgaaDoor.Rn
open Go.ChangeShapes Go.WideShapes Go.ChangeAt Go.RowKit WMath Word Args Mm Co Lk
set_option linter.unusedVariables false
set_option linter.unusedSimpArgs false
set_option maxRecDepth 100000 in
set_option maxHeartbeats 8000000 in
theorem runBounds.walk (W : World) (v : Value) (C D T : List Int) (h : IsCase W v C D T) (z : Int) (hz : (Lit.int .i64 z).wf = true) (hT : Tp.Tb W) :
    Calls Tryd.prog 6 #[v, .int .i64 z] W fun e w' => e = .returned (.bool true) ∧ Below W.heap.size W w' := by
  obtain ⟨A1, c1, A2, c2, A3, c3, rfl, hcap, hC, hD, hE, hfit⟩ := h.open_
  clear h
  obtain ⟨n, hmin, hmax, hn, hlo, hneg⟩ := lim (if 300 < z then 300 else z) (by have := few_le z; omega)
  have hsm := small A1 c1 C A2 c2 D A3 c3 T (W.alloc (.cells (kC C D T A1 c1 A2 c2 A3 c3) 25)) ((Ext.alloc _ _).lies hC) ((Ext.alloc _ _).lies hD) ((Ext.alloc _ _).lies hE) hcap.1 hcap.2.1 hcap.2.2.1 hcap.2.2.2.1 hcap.2.2.2.2.1 hcap.2.2.2.2.2
  have hb0 := Blk.new W 25 (kC C D T A1 c1 A2 c2 A3 c3)
  have hx0 := Ext.alloc W (.cells (kC C D T A1 c1 A2 c2 A3 c3) 25)
  have hs0 : (W.alloc (.cells (kC C D T A1 c1 A2 c2 A3 c3) 25)).heap.size = W.heap.size + 1 := World.size_alloc _ _
  have t1 := take_len C 100; have t2 := take_len D 30; have t3 := take_len T 50
  have u1 := take_take C 100; have u2 := take_take D 30; have u3 := take_take T 50
  generalize C.take 100 = C1 at *
  generalize D.take 30 = D1 at *
  generalize T.take 50 = T1 at *
  have HSM := Lib.hid hsm; have HB0 := Lib.hid hb0; have HX0 := Lib.hid hx0; have HS0 := Lib.hid hs0
  have U1 := Lib.hid u1; have U2 := Lib.hid u2; have U3 := Lib.hid u3
  have T1' := Lib.hid t1; have T2' := Lib.hid t2; have T3' := Lib.hid t3; have HF := Lib.hid hfit; have HT := Lib.hid hT
  have HMIN := Lib.hid hmin; have HMAX := Lib.hid hmax; have HN := Lib.hid hn; have HLO := Lib.hid hlo; have HNEG := Lib.hid hneg
  clear hsm hb0 hx0 hs0 u1 u2 u3 t1 t2 t3 hfit hT hmin hmax hn hlo hneg hC hD hE hcap hz
  go_enter Tryd.func6, Tryd.ntmps6
  go_upto_region 1 with fail
  generalize W.alloc (.cells #[.slice A1 C.length c1, .slice A2 D.length c2, .slice A3 T.length c3] 25) = w0 at *
  have x0 := HB0.out.cell 0; have x1 := HB0.out.cell 1; have x2 := HB0.out.cell 2
  simp at x0 x1 x2
  go_wp2_with fail
  refine HSM.out.mono ?_
  rintro e w1 ⟨B1, d1, B2, d2, B3, d3, rfl, hk, hl1, hl2, hl3, hx1⟩
  have HK := Lib.hid hk; have HL1 := Lib.hid hl1; have HL2 := Lib.hid hl2; have HL3 := Lib.hid hl3
  have HB1 := Lib.hid (HB0.out.below hx1 HB0.out.lt); have HX1 := Lib.hid (HX0.out.trans hx1)
  clear hk hl1 hl2 hl3 hx1 x0 x1 x2 HB0 HX0 HSM
  go_wp2_with fail
  refine (few z w1).mono ?_
  rintro e w1' ⟨rfl, rfl⟩
  generalize (if 300 < z then 300 else z) = z1 at *
  have x0 := HB1.out.cell 0; have x1 := HB1.out.cell 1; have x2 := HB1.out.cell 2
  have f0 := HB1.out.frozen 0; have f1 := HB1.out.frozen 1; have f2 := HB1.out.frozen 2
  simp at x0 x1 x2
  go_upto_region 2 with fail
  clear x0 x1 x2 f0 f1 f2
  obtain ⟨w2, hw2, hbx, hx2⟩ := bx_put (c1 := d1) (c2 := d2) (c3 := d3) HB1.out HX1.out (HS0.out ▸ HL1.out) (HS0.out ▸ HL2.out) (HS0.out ▸ HL3.out)
  simp only [stow3] at hw2
  rw [hw2]
  have HBX := Lib.hid hbx; have HX2 := Lib.hid hx2
  clear hw2 hbx hx2 HB1 HX1 HL1 HL2 HL3 HS0
  have x0 := HBX.out.b.cell 0; have x1 := HBX.out.b.cell 1; have x2 := HBX.out.b.cell 2
  simp at x0 x1 x2
  go_wp2_with fail
  refine (small_box HBX.out HK.out).mono ?_
  rw [U1.out, U2.out, U3.out]
  rintro e w3 ⟨E1, e1, E2, e2, E3, e3, rfl, hk3, hl1, hl2, hl3, hx3⟩
  have HK3 := Lib.hid hk3
  have HBX3 := Lib.hid (HBX.out.ext hx3); have HX3 := Lib.hid (HX2.out.trans hx3)
  have HBY := Lib.hid (bx_new (c1 := e1) (c2 := e2) (c3 := e3) hl1 hl2 hl3)
  clear hk3 hl1 hl2 hl3 hx3 x0 x1 x2 HBX HX2
  go_upto_region 3 with fail
  have hx4 := Ext.alloc w3 (.cells (kC C1 D1 T1 E1 e1 E2 e2 E3 e3) 25)
  have HBX4 := Lib.hid (HBX3.out.ext hx4); have HX4 := Lib.hid (HX3.out.trans hx4)
  clear hx4 HBX3 HX3
  generalize w3.alloc (.cells #[.slice E1 C1.length e1, .slice E2 D1.length e2, .slice E3 T1.length e3] 25) = w4 at *
  generalize w3.heap.size = q at *
  have x0 := HBX4.out.b.cell 0; have x1 := HBX4.out.b.cell 1; have x2 := HBX4.out.b.cell 2
  simp at x0 x1 x2
  go_wp2_with fail
  refine (quick B1 d1 C1 B2 d2 D1 B3 d3 T1 z1 z1 n w4 HBX4.out.la HBX4.out.lb HBX4.out.lc HK.out.1 HK.out.2.1 HK.out.2.2.1 HK.out.2.2.2.1 HF.out T2'.out (by have := T3'.out; omega) HMIN.out HMAX.out HN.out (HT.out.below HX4.out)).mono ?_
  have hlen := run_len n zS (m0 C1 D1 T1)
  have hTT := run_T n zS (m0 C1 D1 T1)
  have hFF := (run_fit n zS (m0 C1 D1 T1) HF.out).d
  generalize runV n zS (m0 C1 D1 T1) = R at *
  rw [hTT.1] at hFF
  have hww : R.m.W.length = D1.length := hTT.2
  have hdd : R.m.d ≤ T1.length := hFF
  have HW := Lib.hid hww; have HD := Lib.hid hdd; have HLN := Lib.hid hlen
  clear hlen hTT hFF hww hdd
  rintro e w5 ⟨F1, f1, F2, f2, rfl, hla, hlb, hk5, hx5⟩
  rw [HW.out]
  have HBX5 := Lib.hid (HBX4.out.ext hx5); have HBY5 := Lib.hid (HBY.out.ext hx5); have HX5 := Lib.hid (HX4.out.trans hx5)
  clear hla hlb hk5 hx5 x0 x1 x2 HBX4 HBY HX4
  go_upto_region 4 with fail
  have hx6 := Ext.alloc w5 (.cells (oC R.ls.length R.m.d R.er (.slice F1 D1.length f1) (.slice F2 (tl false R.ls).length f2)) 31)
  have hb6 := Blk.new w5 31 (oC R.ls.length R.m.d R.er (.slice F1 D1.length f1) (.slice F2 (tl false R.ls).length f2))
  have HBX6 := Lib.hid (HBX5.out.ext hx6); have HBY6 := Lib.hid (HBY5.out.ext hx6); have HX6 := Lib.hid (HX5.out.trans hx6); have HB6 := Lib.hid hb6
  clear hx6 hb6 HBX5 HBY5 HX5
  change Code.wp _ _ _ _ (w5.alloc (.cells (oC R.ls.length R.m.d R.er (.slice F1 D1.length f1) (.slice F2 (tl false R.ls).length f2)) 31))
  generalize w5.alloc (.cells (oC R.ls.length R.m.d R.er (.slice F1 D1.length f1) (.slice F2 (tl false R.ls).length f2)) 31) = w6 at *
  generalize w5.heap.size = q5 at *
  generalize hs : R.ls.length = s at *
  generalize hd : R.m.d = d at *
  have y0 := HB6.out.cell 0; have y1 := HB6.out.cell 1; have y3 := HB6.out.cell 3
  have x1 := HBX6.out.b.cell 1; have x2 := HBX6.out.b.cell 2; have v1 := HBY6.out.b.cell 1; have v2 := HBY6.out.b.cell 2
  simp at y0 y1 y3 x1 x2 v1 v2
  have hd0 : (0 : Int) ≤ (d : Int) := by omega
  have hd1 : d ≤ T1.length := by have := HD.out; omega
  clear hs hd
  have hcase : ((s : Int) ≤ z1) ∨ (z1 < 0 ∧ s = 0 ∧ ¬ (s : Int) ≤ z1) := by
    have h1 := HLN.out; have h2 := HLO.out; have h3 := HNEG.out
    by_cases h : z1 < 0
    · have := h3 h; right; omega
    · have := h2 (by omega); left; omega
  clear HLN HLO HNEG HMIN HMAX
  rcases hcase with hc | ⟨hc1, hc2, hc3⟩
  · go_wp2_with fail
    refine (MmR.same B2 E2 d2 e2 D1 _ HBX6.out.lb HBY6.out.lb (by have := T2'.out; omega)).mono ?_
    rintro en w7 ⟨rfl, hb⟩
    have hb7 : Ext w6 w7 := hb
    have HBX7 := Lib.hid (HBX6.out.ext hb7); have HBY7 := Lib.hid (HBY6.out.ext hb7); have HX7 := Lib.hid (HX6.out.trans hb7)
    clear y0 y1 y3 x1 x2 v1 v2 hb hb7
    have x2 := HBX7.out.b.cell 2; have v2 := HBY7.out.b.cell 2
    simp at x2 v2
    go_wp2_with fail
    refine (MmR.same B3 E3 d3 e3 T1 _ HBX7.out.lc HBY7.out.lc (by have := T3'.out; omega)).mono ?_
    rintro en w8 ⟨rfl, hb⟩
    have HX8 := Lib.hid (HX7.out.trans (show Ext w7 w8 from hb))
    clear hb x2 v2
    go_wp2_with fail
    refine (lives w8 (HT.out.below HX8.out)).mono ?_
    rintro en w9 ⟨rfl, hb⟩
    have HX9 := Lib.hid (HX8.out.trans (show Ext w8 w9 from hb))
    clear hb
    go_wp2_with fail
    go_ret
    exact ⟨rfl, HX9.out⟩
  · subst hc2
    have hc4 : decide ((0 : Int) ≤ z1) = false := by simpa using hc3
    go_wp2_with fail
    refine (MmR.same B2 E2 d2 e2 D1 _ HBX6.out.lb HBY6.out.lb (by have := T2'.out; omega)).mono ?_
    rintro en w7 ⟨rfl, hb⟩
    have hb7 : Ext w6 w7 := hb
    have HBX7 := Lib.hid (HBX6.out.ext hb7); have HBY7 := Lib.hid (HBY6.out.ext hb7); have HX7 := Lib.hid (HX6.out.trans hb7)
    clear y0 y1 y3 x1 x2 v1 v2 hb hb7
    have x2 := HBX7.out.b.cell 2; have v2 := HBY7.out.b.cell 2
    simp at x2 v2
    go_wp2_with fail
    refine (MmR.same B3 E3 d3 e3 T1 _ HBX7.out.lc HBY7.out.lc (by have := T3'.out; omega)).mono ?_
    rintro en w8 ⟨rfl, hb⟩
    have HX8 := Lib.hid (HX7.out.trans (show Ext w7 w8 from hb))
    clear hb x2 v2
    go_wp2_with fail
    refine (lives w8 (HT.out.below HX8.out)).mono ?_
    rintro en w9 ⟨rfl, hb⟩
    have HX9 := Lib.hid (HX8.out.trans (show Ext w8 w9 from hb))
    clear hb
    go_wp2_with fail
    go_ret
    exact ⟨rfl, HX9.out⟩
end Go.Proofs.YtkafmpdjpjgkgaaDoor.Rn
