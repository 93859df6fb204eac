/- DERIVED. RnLg in one text. By an AI agent. -/
import Derived.Test.YtkafmpdjpjgkgaaDoorZ35
import Derived.Deep.RegionHeld3
import Derived.Deep.DeepCutAuto
/- DERIVED. The walk of RunLonger. By an AI agent. -/
namespace Go.Proofs.YtkafmpdjpjgkgaaDoor.Rn
open Go.ChangeShapes Go.WideShapes Go.ChangeAt Go.RowKit WMath Word Args Mm Co Lk
set_option linter.unusedVariables false
set_option linter.unusedSimpArgs false
set_option maxRecDepth 100000 in
set_option maxHeartbeats 16000000 in
theorem runLonger.walk (W : World) (v : Value) (C D T : List Int) (h : IsCase W v C D T) (z : Int) (hz : (Lit.int .i64 z).wf = true) (y : Int) (hy : (Lit.int .u8 y).wf = true) (hT : Tp.Tb W) :
    Calls Tryd.prog 4 #[v, .int .i64 z, .int .u8 y] W fun e w' => e = .returned (.bool true) ∧ Below W.heap.size W w' := by
  obtain ⟨A1, c1, A2, c2, A3, c3, rfl, hcap, hC, hD, hE, hfit⟩ := h.open_
  clear h
  have hy8 := in_u8 hy
  have hsm := small A1 c1 C A2 c2 D A3 c3 T (W.alloc (.cells (kC C D T A1 c1 A2 c2 A3 c3) 25)) ((Ext.alloc _ _).lies hC) ((Ext.alloc _ _).lies hD) ((Ext.alloc _ _).lies hE) hcap.1 hcap.2.1 hcap.2.2.1 hcap.2.2.2.1 hcap.2.2.2.2.1 hcap.2.2.2.2.2
  have hb0 := Blk.new W 25 (kC C D T A1 c1 A2 c2 A3 c3)
  have hx0 := Ext.alloc W (.cells (kC C D T A1 c1 A2 c2 A3 c3) 25)
  have hs0 : (W.alloc (.cells (kC C D T A1 c1 A2 c2 A3 c3) 25)).heap.size = W.heap.size + 1 := World.size_alloc _ _
  have t1 := take_len C 100; have t2 := take_len D 30; have t3 := take_len T 50
  generalize C.take 100 = C1 at *
  generalize D.take 30 = D1 at *
  generalize T.take 50 = T1 at *
  have HSM := Lib.hid hsm; have HB0 := Lib.hid hb0; have HX0 := Lib.hid hx0; have HS0 := Lib.hid hs0; have HY8 := Lib.hid hy8
  have T1' := Lib.hid t1; have T2' := Lib.hid t2; have T3' := Lib.hid t3; have HF := Lib.hid hfit; have HT := Lib.hid hT
  clear hsm hb0 hx0 hs0 t1 t2 t3 hfit hT hC hD hE hcap hz hy hy8
  go_enter Tryd.func4, Tryd.ntmps4
  go_upto_region 1 with fail
  generalize W.alloc (.cells #[.slice A1 C.length c1, .slice A2 D.length c2, .slice A3 T.length c3] 25) = w0 at *
  have x0 := HB0.out.cell 0; have x1 := HB0.out.cell 1; have x2 := HB0.out.cell 2
  simp at x0 x1 x2
  go_wp2_with fail
  refine HSM.out.mono ?_
  rintro e w1 ⟨B1, d1, B2, d2, B3, d3, rfl, hk, hl1, hl2, hl3, hx1⟩
  have HK := Lib.hid hk; have HL1 := Lib.hid hl1; have HL2 := Lib.hid hl2; have HL3 := Lib.hid hl3
  have HB1 := Lib.hid (HB0.out.below hx1 HB0.out.lt); have HX1 := Lib.hid (HX0.out.trans hx1)
  clear hk hl1 hl2 hl3 hx1 x0 x1 x2 HB0 HX0 HSM
  go_wp2_with fail
  refine (few z w1).mono ?_
  rintro e w1' ⟨rfl, rfl⟩
  have hz1 := few_le z
  generalize (if 300 < z then 300 else z) = z1 at *
  have HZ1 := Lib.hid hz1
  clear hz1
  have x0 := HB1.out.cell 0; have x1 := HB1.out.cell 1; have x2 := HB1.out.cell 2
  have f0 := HB1.out.frozen 0; have f1 := HB1.out.frozen 1; have f2 := HB1.out.frozen 2
  simp at x0 x1 x2
  go_upto_region 2 with fail
  clear x0 x1 x2 f0 f1 f2
  obtain ⟨wz, hwz, hbx, hx2⟩ := bx_put (c1 := d1) (c2 := d2) (c3 := d3) HB1.out HX1.out (HS0.out ▸ HL1.out) (HS0.out ▸ HL2.out) (HS0.out ▸ HL3.out)
  simp only [stow3] at hwz
  rw [hwz]
  have HBX := Lib.hid hbx; have HX2 := Lib.hid hx2
  clear hwz hbx hx2 HB1 HX1 HL1 HL2 HL3 HS0
  go_upto_if 15 with fail
  go_cut [1] (fun v wx => ∃ n : Nat, v = .int .i64 n ∧ wz = wx ∧ Hid (n ≤ 300))
  case first =>
    by_cases hl : z1 < 0
    · go_wp2_with fail
      go_meet
      case rel => exact ⟨0, rfl, rfl, Lib.hid (by decide)⟩
    · have hl2 : decide (z1 < 0) = false := by simpa using hl
      obtain ⟨n, rfl⟩ := Int.eq_ofNat_of_zero_le (show 0 ≤ z1 by omega)
      go_wp2_with fail
      go_meet
      case rel => exact ⟨n, rfl, rfl, Lib.hid (by have := HZ1.out; omega)⟩
  case rest =>
  obtain ⟨n, rfl, rfl, HN⟩ := hcut
  clear HZ1
  obtain ⟨k, rfl⟩ := Int.eq_ofNat_of_zero_le HY8.out.1
  have HY9 := Lib.hid (show k < 256 by have := HY8.out.2; omega)
  have HKB := Lib.hid (show k < 256 by have := HY8.out.2; omega)
  clear HY8
  have hA0 : ∀ w, Ext wz w → Calls Tryd.prog 10 #[.slice B1 C1.length d1, .slice B2 D1.length d2, .slice B3 T1.length d3, .int .i64 (n : Int)] w (OutEnd (runV n zS (m0 C1 D1 T1)) true w) := fun w hx =>
    exec B1 d1 C1 B2 d2 D1 B3 d3 T1 (n : Int) (n : Int) n w (hx.lies HBX.out.la) (hx.lies HBX.out.lb) (hx.lies HBX.out.lc) HK.out.1 HK.out.2.1 HK.out.2.2.1 HK.out.2.2.2.1 HF.out T2'.out (by have := T3'.out; omega) (if_neg (by have := HN.out; omega)) (by split <;> omega) (by have := HN.out; omega) (HT.out.below (HX2.out.trans hx))
  have hB0 : ∀ w, Ext wz w → Calls Tryd.prog 10 #[.slice B1 C1.length d1, .slice B2 D1.length d2, .slice B3 T1.length d3, .int .i64 ((n : Int) + (k : Int))] w (OutEnd (runV (n + k) zS (m0 C1 D1 T1)) true w) := fun w hx =>
    exec B1 d1 C1 B2 d2 D1 B3 d3 T1 ((n : Int) + (k : Int)) ((n : Int) + (k : Int)) (n + k) w (hx.lies HBX.out.la) (hx.lies HBX.out.lb) (hx.lies HBX.out.lc) HK.out.1 HK.out.2.1 HK.out.2.2.1 HK.out.2.2.2.1 HF.out T2'.out (by have := T3'.out; omega) (if_neg (by have := HN.out; have := HY9.out; omega)) (by split <;> omega) (by have := HN.out; have := HY9.out; omega) (HT.out.below (HX2.out.trans hx))
  have hsame := run_same n k zS (m0 C1 D1 T1)
  have hmore := run_more n k zS (m0 C1 D1 T1)
  have hlen := run_len n zS (m0 C1 D1 T1)
  have hlen2 := run_len (n + k) zS (m0 C1 D1 T1)
  have hTT := (run_T n zS (m0 C1 D1 T1)).2
  generalize runV n zS (m0 C1 D1 T1) = R1 at *
  generalize runV (n + k) zS (m0 C1 D1 T1) = R2 at *
  have HA0 := Lib.hid hA0; have HB0 := Lib.hid hB0; have HSA := Lib.hid hsame; have HMO := Lib.hid hmore; have HLN := Lib.hid hlen; have HLN2 := Lib.hid hlen2
  have HTT := Lib.hid (show R1.m.W.length = D1.length from hTT)
  have hwk : IntKind.i64.wrap ((n : Int) + (k : Int)) = (n : Int) + (k : Int) := by have := HN.out; have := HY9.out; rw [IntKind.wrap_i64]; omega
  have hwk8 : IntKind.i64.wrap (k : Int) = (k : Int) := by have := HY9.out; rw [IntKind.wrap_i64]; omega
  clear hA0 hB0 hsame hmore hlen hlen2 hTT
  go_upto_region 4 with fail
  go_cut [7, 8] (fun v7 v8 wx => ∃ gp gq F1 f1 G1 g1 F2 f2 G2 g2, v7 = .pointer (some ⟨gp, 0, none⟩) ∧ v8 = .pointer (some ⟨gq, 0, none⟩) ∧ Hid (Two wz gp gq R1 R2 true true F1 f1 G1 g1 F2 f2 G2 g2 wx))
  case first =>
    obtain ⟨w0, hw0⟩ : ∃ w0, wz.drew = w0 := ⟨_, rfl⟩
    have HX := Lib.hid (show Ext wz w0 from hw0 ▸ Ext.drew wz)
    have hS0 := KT.of HBX.out HX.out
    refine wp_region_noPanic ?_
    refine wp_region_held_drew (S := fun w' => KT wz W.heap.size (.slice B1 C1.length d1) (.slice B2 D1.length d2) (.slice B3 T1.length d3) w') (by kernel_rfl) (KT.of HBX.out (Ext.drew wz)) (fun hH => ?_)
    rw [hw0]
    clear hw0 hH
    refine wpAnyH_take (i := 0) (v := ?_) rfl (by kernel_rfl) (by kernel_rfl) (by kernel_rfl) (fun _ _ _ h => h) (Or.inl ⟨by rfl, ?_⟩) hS0 ?_
    rotate_left
    · (intro w hSw; (try dsimp only at hSw); go_simp; try with_reducible rfl)
    (try simp only [Act.put, List.getElem_toArray, List.getElem_cons_succ, List.getElem_cons_zero, List.setIfInBounds_toArray, List.set_cons_zero, List.set_cons_succ])
    refine wpAnyH_take (i := 1) (v := ?_) rfl (by kernel_rfl) (by kernel_rfl) (by kernel_rfl) (fun _ _ _ h => h) (Or.inl ⟨by rfl, ?_⟩) hS0 ?_
    rotate_left
    · (intro w hSw; (try dsimp only at hSw); go_simp; try with_reducible rfl)
    (try simp only [Act.put, List.getElem_toArray, List.getElem_cons_succ, List.getElem_cons_zero, List.setIfInBounds_toArray, List.set_cons_zero, List.set_cons_succ])
    refine wpAnyH_take (i := 2) (v := ?_) rfl (by kernel_rfl) (by kernel_rfl) (by kernel_rfl) (fun _ _ _ h => h) (Or.inl ⟨by rfl, ?_⟩) hS0 ?_
    rotate_left
    · (intro w hSw; (try dsimp only at hSw); go_simp; try with_reducible rfl)
    (try simp only [Act.put, List.getElem_toArray, List.getElem_cons_succ, List.getElem_cons_zero, List.setIfInBounds_toArray, List.set_cons_zero, List.set_cons_succ])
    refine wpAnyH_take (i := 3) (v := ?_) rfl (by kernel_rfl) (by kernel_rfl) (by kernel_rfl) (fun _ _ _ h => h) (Or.inl ⟨by rfl, ?_⟩) hS0 ?_
    rotate_left
    · (intro w hSw; (try dsimp only at hSw); go_simp; try with_reducible rfl)
    (try simp only [Act.put, List.getElem_toArray, List.getElem_cons_succ, List.getElem_cons_zero, List.setIfInBounds_toArray, List.set_cons_zero, List.set_cons_succ])
    refine wpAnyH_take (i := 4) (v := ?_) rfl (by kernel_rfl) (by kernel_rfl) (by kernel_rfl) (fun _ _ _ h => h) (Or.inl ⟨by rfl, ?_⟩) hS0 ?_
    rotate_left
    · (intro w hSw; (try dsimp only at hSw); go_simp; try with_reducible rfl)
    (try simp only [Act.put, List.getElem_toArray, List.getElem_cons_succ, List.getElem_cons_zero, List.setIfInBounds_toArray, List.set_cons_zero, List.set_cons_succ])
    refine wpAnyH_take (i := 5) (v := ?_) rfl (by kernel_rfl) (by kernel_rfl) (by kernel_rfl) (fun _ _ _ h => h) (Or.inl ⟨by rfl, ?_⟩) hS0 ?_
    rotate_left
    · (intro w hSw; (try dsimp only at hSw); go_simp; try with_reducible rfl)
    (try simp only [Act.put, List.getElem_toArray, List.getElem_cons_succ, List.getElem_cons_zero, List.setIfInBounds_toArray, List.set_cons_zero, List.set_cons_succ])
    refine wpAnyH_take (i := 6) (v := ?_) rfl (by kernel_rfl) (by kernel_rfl) (by kernel_rfl) (fun _ _ _ h => h) (Or.inl ⟨by rfl, ?_⟩) hS0 ?_
    rotate_left
    · (intro w hSw; (try dsimp only at hSw); go_simp; try with_reducible rfl)
    (try simp only [Act.put, List.getElem_toArray, List.getElem_cons_succ, List.getElem_cons_zero, List.setIfInBounds_toArray, List.set_cons_zero, List.set_cons_succ])
    refine wpAnyH_take (i := 8) (v := ?_) rfl (by kernel_rfl) (by kernel_rfl) (by kernel_rfl) (fun _ _ _ h => h) (Or.inl ⟨by rfl, ?_⟩) hS0 ?_
    rotate_left
    · (intro w hSw; (try dsimp only at hSw); go_simp; try with_reducible rfl)
    (try simp only [Act.put, List.getElem_toArray, List.getElem_cons_succ, List.getElem_cons_zero, List.setIfInBounds_toArray, List.set_cons_zero, List.set_cons_succ])
    refine wpAnyH_take (i := 9) (v := ?_) rfl (by kernel_rfl) (by kernel_rfl) (by kernel_rfl) (fun _ _ _ h => h) (Or.inl ⟨by rfl, ?_⟩) hS0 ?_
    rotate_left
    · (intro w hSw; (try dsimp only at hSw); go_simp; try with_reducible rfl)
    (try simp only [Act.put, List.getElem_toArray, List.getElem_cons_succ, List.getElem_cons_zero, List.setIfInBounds_toArray, List.set_cons_zero, List.set_cons_succ])
    refine wpAnyH_take (i := 10) (v := ?_) rfl (by kernel_rfl) (by kernel_rfl) (by kernel_rfl) (fun _ _ _ h => h) (Or.inl ⟨by rfl, ?_⟩) hS0 ?_
    rotate_left
    · (intro w hSw; (try dsimp only at hSw); go_simp; try with_reducible rfl)
    (try simp only [Act.put, List.getElem_toArray, List.getElem_cons_succ, List.getElem_cons_zero, List.setIfInBounds_toArray, List.set_cons_zero, List.set_cons_succ])
    refine wpAnyH_take (i := 11) (v := ?_) rfl (by kernel_rfl) (by kernel_rfl) (by kernel_rfl) (fun _ _ _ h => h) (Or.inl ⟨by rfl, ?_⟩) hS0 ?_
    rotate_left
    · (intro w hSw; (try dsimp only at hSw); go_simp; try with_reducible rfl)
    (try simp only [Act.put, List.getElem_toArray, List.getElem_cons_succ, List.getElem_cons_zero, List.setIfInBounds_toArray, List.set_cons_zero, List.set_cons_succ])
    refine wpAnyH_take (i := 12) (v := ?_) rfl (by kernel_rfl) (by kernel_rfl) (by kernel_rfl) (fun _ _ _ h => h) (Or.inl ⟨by rfl, ?_⟩) hS0 ?_
    rotate_left
    · (intro w hSw; (try dsimp only at hSw); go_simp; try with_reducible rfl)
    (try simp only [Act.put, List.getElem_toArray, List.getElem_cons_succ, List.getElem_cons_zero, List.setIfInBounds_toArray, List.set_cons_zero, List.set_cons_succ])
    refine wpAnyH_take (i := 13) (v := ?_) rfl (by kernel_rfl) (by kernel_rfl) (by kernel_rfl) (fun _ _ _ h => h) (Or.inl ⟨by rfl, ?_⟩) hS0 ?_
    rotate_left
    · (intro w hSw; (try dsimp only at hSw); go_simp; try with_reducible rfl)
    (try simp only [Act.put, List.getElem_toArray, List.getElem_cons_succ, List.getElem_cons_zero, List.setIfInBounds_toArray, List.set_cons_zero, List.set_cons_succ])
    refine wpAnyH_take (i := 14) (v := ?_) rfl (by kernel_rfl) (by kernel_rfl) (by kernel_rfl) (fun _ _ _ h => h) (Or.inl ⟨by rfl, ?_⟩) hS0 ?_
    rotate_left
    · (intro w hSw; (try dsimp only at hSw); go_simp; try with_reducible rfl)
    (try simp only [Act.put, List.getElem_toArray, List.getElem_cons_succ, List.getElem_cons_zero, List.setIfInBounds_toArray, List.set_cons_zero, List.set_cons_succ])
    refine wpAnyH_take (i := 15) (v := ?_) rfl (by kernel_rfl) (by kernel_rfl) (by kernel_rfl) (fun _ _ _ h => h) (Or.inl ⟨by rfl, ?_⟩) hS0 ?_
    rotate_left
    · (intro w hSw; (try dsimp only at hSw); go_simp; try with_reducible rfl)
    (try simp only [Act.put, List.getElem_toArray, List.getElem_cons_succ, List.getElem_cons_zero, List.setIfInBounds_toArray, List.set_cons_zero, List.set_cons_succ])
    refine wpAnyH_take (i := 16) (v := ?_) rfl (by kernel_rfl) (by kernel_rfl) (by kernel_rfl) (fun _ _ _ h => h) (Or.inl ⟨by rfl, ?_⟩) hS0 ?_
    rotate_left
    · (intro w hSw; (try dsimp only at hSw); go_simp; try with_reducible rfl)
    (try simp only [Act.put, List.getElem_toArray, List.getElem_cons_succ, List.getElem_cons_zero, List.setIfInBounds_toArray, List.set_cons_zero, List.set_cons_succ])
    refine wpAnyH_take (i := 17) (v := ?_) rfl (by kernel_rfl) (by kernel_rfl) (by kernel_rfl) (fun _ _ _ h => h) (Or.inl ⟨by rfl, ?_⟩) hS0 ?_
    rotate_left
    · (intro w hSw; (try dsimp only at hSw); go_simp; try with_reducible rfl)
    (try simp only [Act.put, List.getElem_toArray, List.getElem_cons_succ, List.getElem_cons_zero, List.setIfInBounds_toArray, List.set_cons_zero, List.set_cons_succ])
    clear hS0
    refine wpAnyH_ready (rs := [7, 19, 20]) (by kernel_rfl) (by simp) (AllReadyH.cons rfl (fun K hK => ?_) (AllReadyH.cons rfl (fun K hK => ?_) (AllReadyH.cons rfl (fun K hK => ?_) AllReadyH.nil)))
    · go_simp
      go_at_call 10; refine (HA0.out _ HX.out).mono ?_
      rintro e w1 ⟨F1, f1, G1, g1, rfl, hla, hlb, hk, hx⟩
      replace HX := Lib.hid (HX.out.trans hx)
      have HA := Lib.hid (Lo.mk hla.lies hlb.lies)
      have HKA := Lib.hid hk
      clear hla hlb hk hx
      go_wp2_with fail
      refine hK.out _ _ (KT.of HBX.out HX.out) (fun hH => ?_)
      clear hK K hH
      (try simp only [Act.put, List.getElem_toArray, List.getElem_cons_succ, List.getElem_cons_zero, List.setIfInBounds_toArray, List.set_cons_zero, List.set_cons_succ])
      refine wpAnyH_ready (rs := [18, 19, 20]) (by kernel_rfl) (by simp) (AllReadyH.cons rfl (fun K hK => ?_) (AllReadyH.cons rfl (fun K hK => ?_) (AllReadyH.cons rfl (fun K hK => ?_) AllReadyH.nil)))
      · go_simp
        go_at_call 10; refine (HB0.out _ HX.out).mono ?_
        rintro e w2 ⟨F2, f2, G2, g2, rfl, hla, hlb, hk, hx⟩
        replace HX := Lib.hid (HX.out.trans hx)
        have HB := Lib.hid (Lo.mk hla.lies hlb.lies)
        have HKB := Lib.hid hk
        replace HA := Lib.hid (HA.out.ext hx)
        clear hla hlb hk hx
        go_wp2_with fail
        refine hK.out _ _ (KT.of HBX.out HX.out) (fun hH => ?_)
        clear hK K hH
        (try simp only [Act.put, List.getElem_toArray, List.getElem_cons_succ, List.getElem_cons_zero, List.setIfInBounds_toArray, List.set_cons_zero, List.set_cons_succ])
        refine wpAnyH_ready (rs := [19, 20]) (by kernel_rfl) (by simp) (AllReadyH.cons rfl (fun K hK => ?_) (AllReadyH.cons rfl (fun K hK => ?_) AllReadyH.nil))
        · go_simp
          have hx := Ext.alloc w2 (.cells z5 31)
          have hn := Bk.new HX.out
          refine hK.out _ _ (KT.of HBX.out (HX.out.trans hx)) (fun hH => ?_)
          clear hK K hH
          (try simp only [Act.put, List.getElem_toArray, List.getElem_cons_succ, List.getElem_cons_zero, List.setIfInBounds_toArray, List.set_cons_zero, List.set_cons_succ])
          obtain ⟨w3, hw⟩ : ∃ w3, w2.alloc (.cells z5 31) = w3 := ⟨_, rfl⟩
          rw [hw] at hx hn
          replace HX := Lib.hid (HX.out.trans hx)
          have HP := Lib.hid hn
          replace HA := Lib.hid (HA.out.ext hx)
          replace HB := Lib.hid (HB.out.ext hx)
          rw [show w2.alloc (.cells #[.int .i64 0, .int .i64 0, .int .i64 0, .slice none 0 0, .slice none 0 0] 31) = w3 from hw]
          clear hw hx hn
          generalize w2.heap.size = gp at *
          refine wpAnyH_ready (rs := [20]) (by kernel_rfl) (by simp) (AllReadyH.cons rfl (fun K hK => ?_) AllReadyH.nil)
          · go_simp
            have hx := Ext.alloc w3 (.cells z5 31)
            have hn := Bk.new HX.out
            refine hK.out _ _ (KT.of HBX.out (HX.out.trans hx)) (fun hH => ?_)
            clear hK K hH
            (try simp only [Act.put, List.getElem_toArray, List.getElem_cons_succ, List.getElem_cons_zero, List.setIfInBounds_toArray, List.set_cons_zero, List.set_cons_succ])
            have hlt := HP.out.b.lt
            obtain ⟨w4, hw⟩ : ∃ w4, w3.alloc (.cells z5 31) = w4 := ⟨_, rfl⟩
            rw [hw] at hx hn
            replace HX := Lib.hid (HX.out.trans hx)
            have HQ := Lib.hid hn
            replace HP := Lib.hid (HP.out.ext hx)
            replace HA := Lib.hid (HA.out.ext hx)
            replace HB := Lib.hid (HB.out.ext hx)
            rw [show w3.alloc (.cells #[.int .i64 0, .int .i64 0, .int .i64 0, .slice none 0 0, .slice none 0 0] 31) = w4 from hw]
            clear hw hx hn
            generalize w3.heap.size = gq at *
            have HNE := Lib.hid (show gp ≠ gq by omega)
            clear hlt
            have b0 := HP.out.b.cell 0; have b1 := HP.out.b.cell 1; have b2 := HP.out.b.cell 2; have b3 := HP.out.b.cell 3; have b4 := HP.out.b.cell 4
            have k0 := HP.out.b.frozen 0; have k1 := HP.out.b.frozen 1; have k2 := HP.out.b.frozen 2; have k3 := HP.out.b.frozen 3; have k4 := HP.out.b.frozen 4
            have d0 := HQ.out.b.cell 0; have d1 := HQ.out.b.cell 1; have d2 := HQ.out.b.cell 2; have d3 := HQ.out.b.cell 3; have d4 := HQ.out.b.cell 4
            have m0' := HQ.out.b.frozen 0; have m1 := HQ.out.b.frozen 1; have m2 := HQ.out.b.frozen 2; have m3 := HQ.out.b.frozen 3; have m4 := HQ.out.b.frozen 4
            simp at b0 b1 b2 b3 b4 d0 d1 d2 d3 d4
            have e1 := HNE.out; have e2 := Ne.symm HNE.out
            refine wpAnyH_ready (rs := [21]) (by kernel_rfl) (by simp) (AllReadyH.cons rfl (fun K hK => ?_) AllReadyH.nil)
            go_simp
            refine hK.out _ _ (KT.of HBX.out (ext_stow HX.out HP.out.lo _ _ _ _ _)) (fun hH => ?_)
            clear hK K hH
            (try simp only [Act.put, List.getElem_toArray, List.getElem_cons_succ, List.getElem_cons_zero, List.setIfInBounds_toArray, List.set_cons_zero, List.set_cons_succ])
            refine wpAnyH_ready (rs := [22]) (by kernel_rfl) (by simp) (AllReadyH.cons rfl (fun K hK => ?_) AllReadyH.nil)
            go_simp
            refine hK.out _ _ (KT.of HBX.out (ext_stow (ext_stow HX.out HP.out.lo _ _ _ _ _) HQ.out.lo _ _ _ _ _)) (fun hH => ?_)
            clear hK K hH b0 b1 b2 b3 b4 k0 k1 k2 k3 k4 d0 d1 d2 d3 d4 m0' m1 m2 m3 m4 e1 e2
            (try simp only [Act.put, List.getElem_toArray, List.getElem_cons_succ, List.getElem_cons_zero, List.setIfInBounds_toArray, List.set_cons_zero, List.set_cons_succ])
            refine wpAnyH_done (by kernel_rfl) ?_ _
            refine NoPanic.normal ?_
            go_wp2_with fail
            go_meet
            case rel => exact ⟨gp, gq, F1, f1, G1, g1, F2, f2, G2, g2, rfl, rfl, Lib.hid (two_put f1 g1 f2 g2 HX.out HP.out HQ.out HNE.out HA.out HB.out)⟩
        · go_simp
          have hx := Ext.alloc w2 (.cells z5 31)
          have hn := Bk.new HX.out
          refine hK.out _ _ (KT.of HBX.out (HX.out.trans hx)) (fun hH => ?_)
          clear hK K hH
          (try simp only [Act.put, List.getElem_toArray, List.getElem_cons_succ, List.getElem_cons_zero, List.setIfInBounds_toArray, List.set_cons_zero, List.set_cons_succ])
          obtain ⟨w3, hw⟩ : ∃ w3, w2.alloc (.cells z5 31) = w3 := ⟨_, rfl⟩
          rw [hw] at hx hn
          replace HX := Lib.hid (HX.out.trans hx)
          have HQ := Lib.hid hn
          replace HA := Lib.hid (HA.out.ext hx)
          replace HB := Lib.hid (HB.out.ext hx)
          rw [show w2.alloc (.cells #[.int .i64 0, .int .i64 0, .int .i64 0, .slice none 0 0, .slice none 0 0] 31) = w3 from hw]
          clear hw hx hn
          generalize w2.heap.size = gq at *
          refine wpAnyH_ready (rs := [19]) (by kernel_rfl) (by simp) (AllReadyH.cons rfl (fun K hK => ?_) AllReadyH.nil)
          · go_simp
            have hx := Ext.alloc w3 (.cells z5 31)
            have hn := Bk.new HX.out
            refine hK.out _ _ (KT.of HBX.out (HX.out.trans hx)) (fun hH => ?_)
            clear hK K hH
            (try simp only [Act.put, List.getElem_toArray, List.getElem_cons_succ, List.getElem_cons_zero, List.setIfInBounds_toArray, List.set_cons_zero, List.set_cons_succ])
            have hlt := HQ.out.b.lt
            obtain ⟨w4, hw⟩ : ∃ w4, w3.alloc (.cells z5 31) = w4 := ⟨_, rfl⟩
            rw [hw] at hx hn
            replace HX := Lib.hid (HX.out.trans hx)
            have HP := Lib.hid hn
            replace HQ := Lib.hid (HQ.out.ext hx)
            replace HA := Lib.hid (HA.out.ext hx)
            replace HB := Lib.hid (HB.out.ext hx)
            rw [show w3.alloc (.cells #[.int .i64 0, .int .i64 0, .int .i64 0, .slice none 0 0, .slice none 0 0] 31) = w4 from hw]
            clear hw hx hn
            generalize w3.heap.size = gp at *
            have HNE := Lib.hid (show gp ≠ gq by omega)
            clear hlt
            have b0 := HP.out.b.cell 0; have b1 := HP.out.b.cell 1; have b2 := HP.out.b.cell 2; have b3 := HP.out.b.cell 3; have b4 := HP.out.b.cell 4
            have k0 := HP.out.b.frozen 0; have k1 := HP.out.b.frozen 1; have k2 := HP.out.b.frozen 2; have k3 := HP.out.b.frozen 3; have k4 := HP.out.b.frozen 4
            have d0 := HQ.out.b.cell 0; have d1 := HQ.out.b.cell 1; have d2 := HQ.out.b.cell 2; have d3 := HQ.out.b.cell 3; have d4 := HQ.out.b.cell 4
            have m0' := HQ.out.b.frozen 0; have m1 := HQ.out.b.frozen 1; have m2 := HQ.out.b.frozen 2; have m3 := HQ.out.b.frozen 3; have m4 := HQ.out.b.frozen 4
            simp at b0 b1 b2 b3 b4 d0 d1 d2 d3 d4
            have e1 := HNE.out; have e2 := Ne.symm HNE.out
            refine wpAnyH_ready (rs := [21]) (by kernel_rfl) (by simp) (AllReadyH.cons rfl (fun K hK => ?_) AllReadyH.nil)
            go_simp
            refine hK.out _ _ (KT.of HBX.out (ext_stow HX.out HP.out.lo _ _ _ _ _)) (fun hH => ?_)
            clear hK K hH
            (try simp only [Act.put, List.getElem_toArray, List.getElem_cons_succ, List.getElem_cons_zero, List.setIfInBounds_toArray, List.set_cons_zero, List.set_cons_succ])
            refine wpAnyH_ready (rs := [22]) (by kernel_rfl) (by simp) (AllReadyH.cons rfl (fun K hK => ?_) AllReadyH.nil)
            go_simp
            refine hK.out _ _ (KT.of HBX.out (ext_stow (ext_stow HX.out HP.out.lo _ _ _ _ _) HQ.out.lo _ _ _ _ _)) (fun hH => ?_)
            clear hK K hH b0 b1 b2 b3 b4 k0 k1 k2 k3 k4 d0 d1 d2 d3 d4 m0' m1 m2 m3 m4 e1 e2
            (try simp only [Act.put, List.getElem_toArray, List.getElem_cons_succ, List.getElem_cons_zero, List.setIfInBounds_toArray, List.set_cons_zero, List.set_cons_succ])
            refine wpAnyH_done (by kernel_rfl) ?_ _
            refine NoPanic.normal ?_
            go_wp2_with fail
            go_meet
            case rel => exact ⟨gp, gq, F1, f1, G1, g1, F2, f2, G2, g2, rfl, rfl, Lib.hid (two_put f1 g1 f2 g2 HX.out HP.out HQ.out HNE.out HA.out HB.out)⟩
      · go_simp
        have hx := Ext.alloc w1 (.cells z5 31)
        have hn := Bk.new HX.out
        refine hK.out _ _ (KT.of HBX.out (HX.out.trans hx)) (fun hH => ?_)
        clear hK K hH
        (try simp only [Act.put, List.getElem_toArray, List.getElem_cons_succ, List.getElem_cons_zero, List.setIfInBounds_toArray, List.set_cons_zero, List.set_cons_succ])
        obtain ⟨w2, hw⟩ : ∃ w2, w1.alloc (.cells z5 31) = w2 := ⟨_, rfl⟩
        rw [hw] at hx hn
        replace HX := Lib.hid (HX.out.trans hx)
        have HP := Lib.hid hn
        replace HA := Lib.hid (HA.out.ext hx)
        rw [show w1.alloc (.cells #[.int .i64 0, .int .i64 0, .int .i64 0, .slice none 0 0, .slice none 0 0] 31) = w2 from hw]
        clear hw hx hn
        generalize w1.heap.size = gp at *
        refine wpAnyH_ready (rs := [18, 20]) (by kernel_rfl) (by simp) (AllReadyH.cons rfl (fun K hK => ?_) (AllReadyH.cons rfl (fun K hK => ?_) AllReadyH.nil))
        · go_simp
          go_at_call 10; refine (HB0.out _ HX.out).mono ?_
          rintro e w3 ⟨F2, f2, G2, g2, rfl, hla, hlb, hk, hx⟩
          replace HX := Lib.hid (HX.out.trans hx)
          have HB := Lib.hid (Lo.mk hla.lies hlb.lies)
          have HKB := Lib.hid hk
          replace HP := Lib.hid (HP.out.ext hx)
          replace HA := Lib.hid (HA.out.ext hx)
          clear hla hlb hk hx
          go_wp2_with fail
          refine hK.out _ _ (KT.of HBX.out HX.out) (fun hH => ?_)
          clear hK K hH
          (try simp only [Act.put, List.getElem_toArray, List.getElem_cons_succ, List.getElem_cons_zero, List.setIfInBounds_toArray, List.set_cons_zero, List.set_cons_succ])
          refine wpAnyH_ready (rs := [20]) (by kernel_rfl) (by simp) (AllReadyH.cons rfl (fun K hK => ?_) AllReadyH.nil)
          · go_simp
            have hx := Ext.alloc w3 (.cells z5 31)
            have hn := Bk.new HX.out
            refine hK.out _ _ (KT.of HBX.out (HX.out.trans hx)) (fun hH => ?_)
            clear hK K hH
            (try simp only [Act.put, List.getElem_toArray, List.getElem_cons_succ, List.getElem_cons_zero, List.setIfInBounds_toArray, List.set_cons_zero, List.set_cons_succ])
            have hlt := HP.out.b.lt
            obtain ⟨w4, hw⟩ : ∃ w4, w3.alloc (.cells z5 31) = w4 := ⟨_, rfl⟩
            rw [hw] at hx hn
            replace HX := Lib.hid (HX.out.trans hx)
            have HQ := Lib.hid hn
            replace HP := Lib.hid (HP.out.ext hx)
            replace HA := Lib.hid (HA.out.ext hx)
            replace HB := Lib.hid (HB.out.ext hx)
            rw [show w3.alloc (.cells #[.int .i64 0, .int .i64 0, .int .i64 0, .slice none 0 0, .slice none 0 0] 31) = w4 from hw]
            clear hw hx hn
            generalize w3.heap.size = gq at *
            have HNE := Lib.hid (show gp ≠ gq by omega)
            clear hlt
            have b0 := HP.out.b.cell 0; have b1 := HP.out.b.cell 1; have b2 := HP.out.b.cell 2; have b3 := HP.out.b.cell 3; have b4 := HP.out.b.cell 4
            have k0 := HP.out.b.frozen 0; have k1 := HP.out.b.frozen 1; have k2 := HP.out.b.frozen 2; have k3 := HP.out.b.frozen 3; have k4 := HP.out.b.frozen 4
            have d0 := HQ.out.b.cell 0; have d1 := HQ.out.b.cell 1; have d2 := HQ.out.b.cell 2; have d3 := HQ.out.b.cell 3; have d4 := HQ.out.b.cell 4
            have m0' := HQ.out.b.frozen 0; have m1 := HQ.out.b.frozen 1; have m2 := HQ.out.b.frozen 2; have m3 := HQ.out.b.frozen 3; have m4 := HQ.out.b.frozen 4
            simp at b0 b1 b2 b3 b4 d0 d1 d2 d3 d4
            have e1 := HNE.out; have e2 := Ne.symm HNE.out
            refine wpAnyH_ready (rs := [21]) (by kernel_rfl) (by simp) (AllReadyH.cons rfl (fun K hK => ?_) AllReadyH.nil)
            go_simp
            refine hK.out _ _ (KT.of HBX.out (ext_stow HX.out HP.out.lo _ _ _ _ _)) (fun hH => ?_)
            clear hK K hH
            (try simp only [Act.put, List.getElem_toArray, List.getElem_cons_succ, List.getElem_cons_zero, List.setIfInBounds_toArray, List.set_cons_zero, List.set_cons_succ])
            refine wpAnyH_ready (rs := [22]) (by kernel_rfl) (by simp) (AllReadyH.cons rfl (fun K hK => ?_) AllReadyH.nil)
            go_simp
            refine hK.out _ _ (KT.of HBX.out (ext_stow (ext_stow HX.out HP.out.lo _ _ _ _ _) HQ.out.lo _ _ _ _ _)) (fun hH => ?_)
            clear hK K hH b0 b1 b2 b3 b4 k0 k1 k2 k3 k4 d0 d1 d2 d3 d4 m0' m1 m2 m3 m4 e1 e2
            (try simp only [Act.put, List.getElem_toArray, List.getElem_cons_succ, List.getElem_cons_zero, List.setIfInBounds_toArray, List.set_cons_zero, List.set_cons_succ])
            refine wpAnyH_done (by kernel_rfl) ?_ _
            refine NoPanic.normal ?_
            go_wp2_with fail
            go_meet
            case rel => exact ⟨gp, gq, F1, f1, G1, g1, F2, f2, G2, g2, rfl, rfl, Lib.hid (two_put f1 g1 f2 g2 HX.out HP.out HQ.out HNE.out HA.out HB.out)⟩
        · go_simp
          have hx := Ext.alloc w2 (.cells z5 31)
          have hn := Bk.new HX.out
          refine hK.out _ _ (KT.of HBX.out (HX.out.trans hx)) (fun hH => ?_)
          clear hK K hH
          (try simp only [Act.put, List.getElem_toArray, List.getElem_cons_succ, List.getElem_cons_zero, List.setIfInBounds_toArray, List.set_cons_zero, List.set_cons_succ])
          have hlt := HP.out.b.lt
          obtain ⟨w3, hw⟩ : ∃ w3, w2.alloc (.cells z5 31) = w3 := ⟨_, rfl⟩
          rw [hw] at hx hn
          replace HX := Lib.hid (HX.out.trans hx)
          have HQ := Lib.hid hn
          replace HP := Lib.hid (HP.out.ext hx)
          replace HA := Lib.hid (HA.out.ext hx)
          rw [show w2.alloc (.cells #[.int .i64 0, .int .i64 0, .int .i64 0, .slice none 0 0, .slice none 0 0] 31) = w3 from hw]
          clear hw hx hn
          generalize w2.heap.size = gq at *
          have HNE := Lib.hid (show gp ≠ gq by omega)
          clear hlt
          refine wpAnyH_ready (rs := [18]) (by kernel_rfl) (by simp) (AllReadyH.cons rfl (fun K hK => ?_) AllReadyH.nil)
          · go_simp
            go_at_call 10; refine (HB0.out _ HX.out).mono ?_
            rintro e w4 ⟨F2, f2, G2, g2, rfl, hla, hlb, hk, hx⟩
            replace HX := Lib.hid (HX.out.trans hx)
            have HB := Lib.hid (Lo.mk hla.lies hlb.lies)
            have HKB := Lib.hid hk
            replace HP := Lib.hid (HP.out.ext hx)
            replace HQ := Lib.hid (HQ.out.ext hx)
            replace HA := Lib.hid (HA.out.ext hx)
            clear hla hlb hk hx
            go_wp2_with fail
            refine hK.out _ _ (KT.of HBX.out HX.out) (fun hH => ?_)
            clear hK K hH
            (try simp only [Act.put, List.getElem_toArray, List.getElem_cons_succ, List.getElem_cons_zero, List.setIfInBounds_toArray, List.set_cons_zero, List.set_cons_succ])
            have b0 := HP.out.b.cell 0; have b1 := HP.out.b.cell 1; have b2 := HP.out.b.cell 2; have b3 := HP.out.b.cell 3; have b4 := HP.out.b.cell 4
            have k0 := HP.out.b.frozen 0; have k1 := HP.out.b.frozen 1; have k2 := HP.out.b.frozen 2; have k3 := HP.out.b.frozen 3; have k4 := HP.out.b.frozen 4
            have d0 := HQ.out.b.cell 0; have d1 := HQ.out.b.cell 1; have d2 := HQ.out.b.cell 2; have d3 := HQ.out.b.cell 3; have d4 := HQ.out.b.cell 4
            have m0' := HQ.out.b.frozen 0; have m1 := HQ.out.b.frozen 1; have m2 := HQ.out.b.frozen 2; have m3 := HQ.out.b.frozen 3; have m4 := HQ.out.b.frozen 4
            simp at b0 b1 b2 b3 b4 d0 d1 d2 d3 d4
            have e1 := HNE.out; have e2 := Ne.symm HNE.out
            refine wpAnyH_ready (rs := [21]) (by kernel_rfl) (by simp) (AllReadyH.cons rfl (fun K hK => ?_) AllReadyH.nil)
            go_simp
            refine hK.out _ _ (KT.of HBX.out (ext_stow HX.out HP.out.lo _ _ _ _ _)) (fun hH => ?_)
            clear hK K hH
            (try simp only [Act.put, List.getElem_toArray, List.getElem_cons_succ, List.getElem_cons_zero, List.setIfInBounds_toArray, List.set_cons_zero, List.set_cons_succ])
            refine wpAnyH_ready (rs := [22]) (by kernel_rfl) (by simp) (AllReadyH.cons rfl (fun K hK => ?_) AllReadyH.nil)
            go_simp
            refine hK.out _ _ (KT.of HBX.out (ext_stow (ext_stow HX.out HP.out.lo _ _ _ _ _) HQ.out.lo _ _ _ _ _)) (fun hH => ?_)
            clear hK K hH b0 b1 b2 b3 b4 k0 k1 k2 k3 k4 d0 d1 d2 d3 d4 m0' m1 m2 m3 m4 e1 e2
            (try simp only [Act.put, List.getElem_toArray, List.getElem_cons_succ, List.getElem_cons_zero, List.setIfInBounds_toArray, List.set_cons_zero, List.set_cons_succ])
            refine wpAnyH_done (by kernel_rfl) ?_ _
            refine NoPanic.normal ?_
            go_wp2_with fail
            go_meet
            case rel => exact ⟨gp, gq, F1, f1, G1, g1, F2, f2, G2, g2, rfl, rfl, Lib.hid (two_put f1 g1 f2 g2 HX.out HP.out HQ.out HNE.out HA.out HB.out)⟩
      · go_simp
        have hx := Ext.alloc w1 (.cells z5 31)
        have hn := Bk.new HX.out
        refine hK.out _ _ (KT.of HBX.out (HX.out.trans hx)) (fun hH => ?_)
        clear hK K hH
        (try simp only [Act.put, List.getElem_toArray, List.getElem_cons_succ, List.getElem_cons_zero, List.setIfInBounds_toArray, List.set_cons_zero, List.set_cons_succ])
        obtain ⟨w2, hw⟩ : ∃ w2, w1.alloc (.cells z5 31) = w2 := ⟨_, rfl⟩
        rw [hw] at hx hn
        replace HX := Lib.hid (HX.out.trans hx)
        have HQ := Lib.hid hn
        replace HA := Lib.hid (HA.out.ext hx)
        rw [show w1.alloc (.cells #[.int .i64 0, .int .i64 0, .int .i64 0, .slice none 0 0, .slice none 0 0] 31) = w2 from hw]
        clear hw hx hn
        generalize w1.heap.size = gq at *
        refine wpAnyH_ready (rs := [18, 19]) (by kernel_rfl) (by simp) (AllReadyH.cons rfl (fun K hK => ?_) (AllReadyH.cons rfl (fun K hK => ?_) AllReadyH.nil))
        · go_simp
          go_at_call 10; refine (HB0.out _ HX.out).mono ?_
          rintro e w3 ⟨F2, f2, G2, g2, rfl, hla, hlb, hk, hx⟩
          replace HX := Lib.hid (HX.out.trans hx)
          have HB := Lib.hid (Lo.mk hla.lies hlb.lies)
          have HKB := Lib.hid hk
          replace HQ := Lib.hid (HQ.out.ext hx)
          replace HA := Lib.hid (HA.out.ext hx)
          clear hla hlb hk hx
          go_wp2_with fail
          refine hK.out _ _ (KT.of HBX.out HX.out) (fun hH => ?_)
          clear hK K hH
          (try simp only [Act.put, List.getElem_toArray, List.getElem_cons_succ, List.getElem_cons_zero, List.setIfInBounds_toArray, List.set_cons_zero, List.set_cons_succ])
          refine wpAnyH_ready (rs := [19]) (by kernel_rfl) (by simp) (AllReadyH.cons rfl (fun K hK => ?_) AllReadyH.nil)
          · go_simp
            have hx := Ext.alloc w3 (.cells z5 31)
            have hn := Bk.new HX.out
            refine hK.out _ _ (KT.of HBX.out (HX.out.trans hx)) (fun hH => ?_)
            clear hK K hH
            (try simp only [Act.put, List.getElem_toArray, List.getElem_cons_succ, List.getElem_cons_zero, List.setIfInBounds_toArray, List.set_cons_zero, List.set_cons_succ])
            have hlt := HQ.out.b.lt
            obtain ⟨w4, hw⟩ : ∃ w4, w3.alloc (.cells z5 31) = w4 := ⟨_, rfl⟩
            rw [hw] at hx hn
            replace HX := Lib.hid (HX.out.trans hx)
            have HP := Lib.hid hn
            replace HQ := Lib.hid (HQ.out.ext hx)
            replace HA := Lib.hid (HA.out.ext hx)
            replace HB := Lib.hid (HB.out.ext hx)
            rw [show w3.alloc (.cells #[.int .i64 0, .int .i64 0, .int .i64 0, .slice none 0 0, .slice none 0 0] 31) = w4 from hw]
            clear hw hx hn
            generalize w3.heap.size = gp at *
            have HNE := Lib.hid (show gp ≠ gq by omega)
            clear hlt
            have b0 := HP.out.b.cell 0; have b1 := HP.out.b.cell 1; have b2 := HP.out.b.cell 2; have b3 := HP.out.b.cell 3; have b4 := HP.out.b.cell 4
            have k0 := HP.out.b.frozen 0; have k1 := HP.out.b.frozen 1; have k2 := HP.out.b.frozen 2; have k3 := HP.out.b.frozen 3; have k4 := HP.out.b.frozen 4
            have d0 := HQ.out.b.cell 0; have d1 := HQ.out.b.cell 1; have d2 := HQ.out.b.cell 2; have d3 := HQ.out.b.cell 3; have d4 := HQ.out.b.cell 4
            have m0' := HQ.out.b.frozen 0; have m1 := HQ.out.b.frozen 1; have m2 := HQ.out.b.frozen 2; have m3 := HQ.out.b.frozen 3; have m4 := HQ.out.b.frozen 4
            simp at b0 b1 b2 b3 b4 d0 d1 d2 d3 d4
            have e1 := HNE.out; have e2 := Ne.symm HNE.out
            refine wpAnyH_ready (rs := [21]) (by kernel_rfl) (by simp) (AllReadyH.cons rfl (fun K hK => ?_) AllReadyH.nil)
            go_simp
            refine hK.out _ _ (KT.of HBX.out (ext_stow HX.out HP.out.lo _ _ _ _ _)) (fun hH => ?_)
            clear hK K hH
            (try simp only [Act.put, List.getElem_toArray, List.getElem_cons_succ, List.getElem_cons_zero, List.setIfInBounds_toArray, List.set_cons_zero, List.set_cons_succ])
            refine wpAnyH_ready (rs := [22]) (by kernel_rfl) (by simp) (AllReadyH.cons rfl (fun K hK => ?_) AllReadyH.nil)
            go_simp
            refine hK.out _ _ (KT.of HBX.out (ext_stow (ext_stow HX.out HP.out.lo _ _ _ _ _) HQ.out.lo _ _ _ _ _)) (fun hH => ?_)
            clear hK K hH b0 b1 b2 b3 b4 k0 k1 k2 k3 k4 d0 d1 d2 d3 d4 m0' m1 m2 m3 m4 e1 e2
            (try simp only [Act.put, List.getElem_toArray, List.getElem_cons_succ, List.getElem_cons_zero, List.setIfInBounds_toArray, List.set_cons_zero, List.set_cons_succ])
            refine wpAnyH_done (by kernel_rfl) ?_ _
            refine NoPanic.normal ?_
            go_wp2_with fail
            go_meet
            case rel => exact ⟨gp, gq, F1, f1, G1, g1, F2, f2, G2, g2, rfl, rfl, Lib.hid (two_put f1 g1 f2 g2 HX.out HP.out HQ.out HNE.out HA.out HB.out)⟩
        · go_simp
          have hx := Ext.alloc w2 (.cells z5 31)
          have hn := Bk.new HX.out
          refine hK.out _ _ (KT.of HBX.out (HX.out.trans hx)) (fun hH => ?_)
          clear hK K hH
          (try simp only [Act.put, List.getElem_toArray, List.getElem_cons_succ, List.getElem_cons_zero, List.setIfInBounds_toArray, List.set_cons_zero, List.set_cons_succ])
          have hlt := HQ.out.b.lt
          obtain ⟨w3, hw⟩ : ∃ w3, w2.alloc (.cells z5 31) = w3 := ⟨_, rfl⟩
          rw [hw] at hx hn
          replace HX := Lib.hid (HX.out.trans hx)
          have HP := Lib.hid hn
          replace HQ := Lib.hid (HQ.out.ext hx)
          replace HA := Lib.hid (HA.out.ext hx)
          rw [show w2.alloc (.cells #[.int .i64 0, .int .i64 0, .int .i64 0, .slice none 0 0, .slice none 0 0] 31) = w3 from hw]
          clear hw hx hn
          generalize w2.heap.size = gp at *
          have HNE := Lib.hid (show gp ≠ gq by omega)
          clear hlt
          refine wpAnyH_ready (rs := [18]) (by kernel_rfl) (by simp) (AllReadyH.cons rfl (fun K hK => ?_) AllReadyH.nil)
          · go_simp
            go_at_call 10; refine (HB0.out _ HX.out).mono ?_
            rintro e w4 ⟨F2, f2, G2, g2, rfl, hla, hlb, hk, hx⟩
            replace HX := Lib.hid (HX.out.trans hx)
            have HB := Lib.hid (Lo.mk hla.lies hlb.lies)
            have HKB := Lib.hid hk
            replace HP := Lib.hid (HP.out.ext hx)
            replace HQ := Lib.hid (HQ.out.ext hx)
            replace HA := Lib.hid (HA.out.ext hx)
            clear hla hlb hk hx
            go_wp2_with fail
            refine hK.out _ _ (KT.of HBX.out HX.out) (fun hH => ?_)
            clear hK K hH
            (try simp only [Act.put, List.getElem_toArray, List.getElem_cons_succ, List.getElem_cons_zero, List.setIfInBounds_toArray, List.set_cons_zero, List.set_cons_succ])
            have b0 := HP.out.b.cell 0; have b1 := HP.out.b.cell 1; have b2 := HP.out.b.cell 2; have b3 := HP.out.b.cell 3; have b4 := HP.out.b.cell 4
            have k0 := HP.out.b.frozen 0; have k1 := HP.out.b.frozen 1; have k2 := HP.out.b.frozen 2; have k3 := HP.out.b.frozen 3; have k4 := HP.out.b.frozen 4
            have d0 := HQ.out.b.cell 0; have d1 := HQ.out.b.cell 1; have d2 := HQ.out.b.cell 2; have d3 := HQ.out.b.cell 3; have d4 := HQ.out.b.cell 4
            have m0' := HQ.out.b.frozen 0; have m1 := HQ.out.b.frozen 1; have m2 := HQ.out.b.frozen 2; have m3 := HQ.out.b.frozen 3; have m4 := HQ.out.b.frozen 4
            simp at b0 b1 b2 b3 b4 d0 d1 d2 d3 d4
            have e1 := HNE.out; have e2 := Ne.symm HNE.out
            refine wpAnyH_ready (rs := [21]) (by kernel_rfl) (by simp) (AllReadyH.cons rfl (fun K hK => ?_) AllReadyH.nil)
            go_simp
            refine hK.out _ _ (KT.of HBX.out (ext_stow HX.out HP.out.lo _ _ _ _ _)) (fun hH => ?_)
            clear hK K hH
            (try simp only [Act.put, List.getElem_toArray, List.getElem_cons_succ, List.getElem_cons_zero, List.setIfInBounds_toArray, List.set_cons_zero, List.set_cons_succ])
            refine wpAnyH_ready (rs := [22]) (by kernel_rfl) (by simp) (AllReadyH.cons rfl (fun K hK => ?_) AllReadyH.nil)
            go_simp
            refine hK.out _ _ (KT.of HBX.out (ext_stow (ext_stow HX.out HP.out.lo _ _ _ _ _) HQ.out.lo _ _ _ _ _)) (fun hH => ?_)
            clear hK K hH b0 b1 b2 b3 b4 k0 k1 k2 k3 k4 d0 d1 d2 d3 d4 m0' m1 m2 m3 m4 e1 e2
            (try simp only [Act.put, List.getElem_toArray, List.getElem_cons_succ, List.getElem_cons_zero, List.setIfInBounds_toArray, List.set_cons_zero, List.set_cons_succ])
            refine wpAnyH_done (by kernel_rfl) ?_ _
            refine NoPanic.normal ?_
            go_wp2_with fail
            go_meet
            case rel => exact ⟨gp, gq, F1, f1, G1, g1, F2, f2, G2, g2, rfl, rfl, Lib.hid (two_put f1 g1 f2 g2 HX.out HP.out HQ.out HNE.out HA.out HB.out)⟩
    · go_simp
      have hx := Ext.alloc w0 (.cells z5 31)
      have hn := Bk.new HX.out
      refine hK.out _ _ (KT.of HBX.out (HX.out.trans hx)) (fun hH => ?_)
      clear hK K hH
      (try simp only [Act.put, List.getElem_toArray, List.getElem_cons_succ, List.getElem_cons_zero, List.setIfInBounds_toArray, List.set_cons_zero, List.set_cons_succ])
      obtain ⟨w1, hw⟩ : ∃ w1, w0.alloc (.cells z5 31) = w1 := ⟨_, rfl⟩
      rw [hw] at hx hn
      replace HX := Lib.hid (HX.out.trans hx)
      have HP := Lib.hid hn
      rw [show w0.alloc (.cells #[.int .i64 0, .int .i64 0, .int .i64 0, .slice none 0 0, .slice none 0 0] 31) = w1 from hw]
      clear hw hx hn
      generalize w0.heap.size = gp at *
      refine wpAnyH_ready (rs := [7, 20]) (by kernel_rfl) (by simp) (AllReadyH.cons rfl (fun K hK => ?_) (AllReadyH.cons rfl (fun K hK => ?_) AllReadyH.nil))
      · go_simp
        go_at_call 10; refine (HA0.out _ HX.out).mono ?_
        rintro e w2 ⟨F1, f1, G1, g1, rfl, hla, hlb, hk, hx⟩
        replace HX := Lib.hid (HX.out.trans hx)
        have HA := Lib.hid (Lo.mk hla.lies hlb.lies)
        have HKA := Lib.hid hk
        replace HP := Lib.hid (HP.out.ext hx)
        clear hla hlb hk hx
        go_wp2_with fail
        refine hK.out _ _ (KT.of HBX.out HX.out) (fun hH => ?_)
        clear hK K hH
        (try simp only [Act.put, List.getElem_toArray, List.getElem_cons_succ, List.getElem_cons_zero, List.setIfInBounds_toArray, List.set_cons_zero, List.set_cons_succ])
        refine wpAnyH_ready (rs := [18, 20]) (by kernel_rfl) (by simp) (AllReadyH.cons rfl (fun K hK => ?_) (AllReadyH.cons rfl (fun K hK => ?_) AllReadyH.nil))
        · go_simp
          go_at_call 10; refine (HB0.out _ HX.out).mono ?_
          rintro e w3 ⟨F2, f2, G2, g2, rfl, hla, hlb, hk, hx⟩
          replace HX := Lib.hid (HX.out.trans hx)
          have HB := Lib.hid (Lo.mk hla.lies hlb.lies)
          have HKB := Lib.hid hk
          replace HP := Lib.hid (HP.out.ext hx)
          replace HA := Lib.hid (HA.out.ext hx)
          clear hla hlb hk hx
          go_wp2_with fail
          refine hK.out _ _ (KT.of HBX.out HX.out) (fun hH => ?_)
          clear hK K hH
          (try simp only [Act.put, List.getElem_toArray, List.getElem_cons_succ, List.getElem_cons_zero, List.setIfInBounds_toArray, List.set_cons_zero, List.set_cons_succ])
          refine wpAnyH_ready (rs := [20]) (by kernel_rfl) (by simp) (AllReadyH.cons rfl (fun K hK => ?_) AllReadyH.nil)
          · go_simp
            have hx := Ext.alloc w3 (.cells z5 31)
            have hn := Bk.new HX.out
            refine hK.out _ _ (KT.of HBX.out (HX.out.trans hx)) (fun hH => ?_)
            clear hK K hH
            (try simp only [Act.put, List.getElem_toArray, List.getElem_cons_succ, List.getElem_cons_zero, List.setIfInBounds_toArray, List.set_cons_zero, List.set_cons_succ])
            have hlt := HP.out.b.lt
            obtain ⟨w4, hw⟩ : ∃ w4, w3.alloc (.cells z5 31) = w4 := ⟨_, rfl⟩
            rw [hw] at hx hn
            replace HX := Lib.hid (HX.out.trans hx)
            have HQ := Lib.hid hn
            replace HP := Lib.hid (HP.out.ext hx)
            replace HA := Lib.hid (HA.out.ext hx)
            replace HB := Lib.hid (HB.out.ext hx)
            rw [show w3.alloc (.cells #[.int .i64 0, .int .i64 0, .int .i64 0, .slice none 0 0, .slice none 0 0] 31) = w4 from hw]
            clear hw hx hn
            generalize w3.heap.size = gq at *
            have HNE := Lib.hid (show gp ≠ gq by omega)
            clear hlt
            have b0 := HP.out.b.cell 0; have b1 := HP.out.b.cell 1; have b2 := HP.out.b.cell 2; have b3 := HP.out.b.cell 3; have b4 := HP.out.b.cell 4
            have k0 := HP.out.b.frozen 0; have k1 := HP.out.b.frozen 1; have k2 := HP.out.b.frozen 2; have k3 := HP.out.b.frozen 3; have k4 := HP.out.b.frozen 4
            have d0 := HQ.out.b.cell 0; have d1 := HQ.out.b.cell 1; have d2 := HQ.out.b.cell 2; have d3 := HQ.out.b.cell 3; have d4 := HQ.out.b.cell 4
            have m0' := HQ.out.b.frozen 0; have m1 := HQ.out.b.frozen 1; have m2 := HQ.out.b.frozen 2; have m3 := HQ.out.b.frozen 3; have m4 := HQ.out.b.frozen 4
            simp at b0 b1 b2 b3 b4 d0 d1 d2 d3 d4
            have e1 := HNE.out; have e2 := Ne.symm HNE.out
            refine wpAnyH_ready (rs := [21]) (by kernel_rfl) (by simp) (AllReadyH.cons rfl (fun K hK => ?_) AllReadyH.nil)
            go_simp
            refine hK.out _ _ (KT.of HBX.out (ext_stow HX.out HP.out.lo _ _ _ _ _)) (fun hH => ?_)
            clear hK K hH
            (try simp only [Act.put, List.getElem_toArray, List.getElem_cons_succ, List.getElem_cons_zero, List.setIfInBounds_toArray, List.set_cons_zero, List.set_cons_succ])
            refine wpAnyH_ready (rs := [22]) (by kernel_rfl) (by simp) (AllReadyH.cons rfl (fun K hK => ?_) AllReadyH.nil)
            go_simp
            refine hK.out _ _ (KT.of HBX.out (ext_stow (ext_stow HX.out HP.out.lo _ _ _ _ _) HQ.out.lo _ _ _ _ _)) (fun hH => ?_)
            clear hK K hH b0 b1 b2 b3 b4 k0 k1 k2 k3 k4 d0 d1 d2 d3 d4 m0' m1 m2 m3 m4 e1 e2
            (try simp only [Act.put, List.getElem_toArray, List.getElem_cons_succ, List.getElem_cons_zero, List.setIfInBounds_toArray, List.set_cons_zero, List.set_cons_succ])
            refine wpAnyH_done (by kernel_rfl) ?_ _
            refine NoPanic.normal ?_
            go_wp2_with fail
            go_meet
            case rel => exact ⟨gp, gq, F1, f1, G1, g1, F2, f2, G2, g2, rfl, rfl, Lib.hid (two_put f1 g1 f2 g2 HX.out HP.out HQ.out HNE.out HA.out HB.out)⟩
        · go_simp
          have hx := Ext.alloc w2 (.cells z5 31)
          have hn := Bk.new HX.out
          refine hK.out _ _ (KT.of HBX.out (HX.out.trans hx)) (fun hH => ?_)
          clear hK K hH
          (try simp only [Act.put, List.getElem_toArray, List.getElem_cons_succ, List.getElem_cons_zero, List.setIfInBounds_toArray, List.set_cons_zero, List.set_cons_succ])
          have hlt := HP.out.b.lt
          obtain ⟨w3, hw⟩ : ∃ w3, w2.alloc (.cells z5 31) = w3 := ⟨_, rfl⟩
          rw [hw] at hx hn
          replace HX := Lib.hid (HX.out.trans hx)
          have HQ := Lib.hid hn
          replace HP := Lib.hid (HP.out.ext hx)
          replace HA := Lib.hid (HA.out.ext hx)
          rw [show w2.alloc (.cells #[.int .i64 0, .int .i64 0, .int .i64 0, .slice none 0 0, .slice none 0 0] 31) = w3 from hw]
          clear hw hx hn
          generalize w2.heap.size = gq at *
          have HNE := Lib.hid (show gp ≠ gq by omega)
          clear hlt
          refine wpAnyH_ready (rs := [18]) (by kernel_rfl) (by simp) (AllReadyH.cons rfl (fun K hK => ?_) AllReadyH.nil)
          · go_simp
            go_at_call 10; refine (HB0.out _ HX.out).mono ?_
            rintro e w4 ⟨F2, f2, G2, g2, rfl, hla, hlb, hk, hx⟩
            replace HX := Lib.hid (HX.out.trans hx)
            have HB := Lib.hid (Lo.mk hla.lies hlb.lies)
            have HKB := Lib.hid hk
            replace HP := Lib.hid (HP.out.ext hx)
            replace HQ := Lib.hid (HQ.out.ext hx)
            replace HA := Lib.hid (HA.out.ext hx)
            clear hla hlb hk hx
            go_wp2_with fail
            refine hK.out _ _ (KT.of HBX.out HX.out) (fun hH => ?_)
            clear hK K hH
            (try simp only [Act.put, List.getElem_toArray, List.getElem_cons_succ, List.getElem_cons_zero, List.setIfInBounds_toArray, List.set_cons_zero, List.set_cons_succ])
            have b0 := HP.out.b.cell 0; have b1 := HP.out.b.cell 1; have b2 := HP.out.b.cell 2; have b3 := HP.out.b.cell 3; have b4 := HP.out.b.cell 4
            have k0 := HP.out.b.frozen 0; have k1 := HP.out.b.frozen 1; have k2 := HP.out.b.frozen 2; have k3 := HP.out.b.frozen 3; have k4 := HP.out.b.frozen 4
            have d0 := HQ.out.b.cell 0; have d1 := HQ.out.b.cell 1; have d2 := HQ.out.b.cell 2; have d3 := HQ.out.b.cell 3; have d4 := HQ.out.b.cell 4
            have m0' := HQ.out.b.frozen 0; have m1 := HQ.out.b.frozen 1; have m2 := HQ.out.b.frozen 2; have m3 := HQ.out.b.frozen 3; have m4 := HQ.out.b.frozen 4
            simp at b0 b1 b2 b3 b4 d0 d1 d2 d3 d4
            have e1 := HNE.out; have e2 := Ne.symm HNE.out
            refine wpAnyH_ready (rs := [21]) (by kernel_rfl) (by simp) (AllReadyH.cons rfl (fun K hK => ?_) AllReadyH.nil)
            go_simp
            refine hK.out _ _ (KT.of HBX.out (ext_stow HX.out HP.out.lo _ _ _ _ _)) (fun hH => ?_)
            clear hK K hH
            (try simp only [Act.put, List.getElem_toArray, List.getElem_cons_succ, List.getElem_cons_zero, List.setIfInBounds_toArray, List.set_cons_zero, List.set_cons_succ])
            refine wpAnyH_ready (rs := [22]) (by kernel_rfl) (by simp) (AllReadyH.cons rfl (fun K hK => ?_) AllReadyH.nil)
            go_simp
            refine hK.out _ _ (KT.of HBX.out (ext_stow (ext_stow HX.out HP.out.lo _ _ _ _ _) HQ.out.lo _ _ _ _ _)) (fun hH => ?_)
            clear hK K hH b0 b1 b2 b3 b4 k0 k1 k2 k3 k4 d0 d1 d2 d3 d4 m0' m1 m2 m3 m4 e1 e2
            (try simp only [Act.put, List.getElem_toArray, List.getElem_cons_succ, List.getElem_cons_zero, List.setIfInBounds_toArray, List.set_cons_zero, List.set_cons_succ])
            refine wpAnyH_done (by kernel_rfl) ?_ _
            refine NoPanic.normal ?_
            go_wp2_with fail
            go_meet
            case rel => exact ⟨gp, gq, F1, f1, G1, g1, F2, f2, G2, g2, rfl, rfl, Lib.hid (two_put f1 g1 f2 g2 HX.out HP.out HQ.out HNE.out HA.out HB.out)⟩
      · go_simp
        have hx := Ext.alloc w1 (.cells z5 31)
        have hn := Bk.new HX.out
        refine hK.out _ _ (KT.of HBX.out (HX.out.trans hx)) (fun hH => ?_)
        clear hK K hH
        (try simp only [Act.put, List.getElem_toArray, List.getElem_cons_succ, List.getElem_cons_zero, List.setIfInBounds_toArray, List.set_cons_zero, List.set_cons_succ])
        have hlt := HP.out.b.lt
        obtain ⟨w2, hw⟩ : ∃ w2, w1.alloc (.cells z5 31) = w2 := ⟨_, rfl⟩
        rw [hw] at hx hn
        replace HX := Lib.hid (HX.out.trans hx)
        have HQ := Lib.hid hn
        replace HP := Lib.hid (HP.out.ext hx)
        rw [show w1.alloc (.cells #[.int .i64 0, .int .i64 0, .int .i64 0, .slice none 0 0, .slice none 0 0] 31) = w2 from hw]
        clear hw hx hn
        generalize w1.heap.size = gq at *
        have HNE := Lib.hid (show gp ≠ gq by omega)
        clear hlt
        refine wpAnyH_ready (rs := [7]) (by kernel_rfl) (by simp) (AllReadyH.cons rfl (fun K hK => ?_) AllReadyH.nil)
        · go_simp
          go_at_call 10; refine (HA0.out _ HX.out).mono ?_
          rintro e w3 ⟨F1, f1, G1, g1, rfl, hla, hlb, hk, hx⟩
          replace HX := Lib.hid (HX.out.trans hx)
          have HA := Lib.hid (Lo.mk hla.lies hlb.lies)
          have HKA := Lib.hid hk
          replace HP := Lib.hid (HP.out.ext hx)
          replace HQ := Lib.hid (HQ.out.ext hx)
          clear hla hlb hk hx
          go_wp2_with fail
          refine hK.out _ _ (KT.of HBX.out HX.out) (fun hH => ?_)
          clear hK K hH
          (try simp only [Act.put, List.getElem_toArray, List.getElem_cons_succ, List.getElem_cons_zero, List.setIfInBounds_toArray, List.set_cons_zero, List.set_cons_succ])
          refine wpAnyH_ready (rs := [18]) (by kernel_rfl) (by simp) (AllReadyH.cons rfl (fun K hK => ?_) AllReadyH.nil)
          · go_simp
            go_at_call 10; refine (HB0.out _ HX.out).mono ?_
            rintro e w4 ⟨F2, f2, G2, g2, rfl, hla, hlb, hk, hx⟩
            replace HX := Lib.hid (HX.out.trans hx)
            have HB := Lib.hid (Lo.mk hla.lies hlb.lies)
            have HKB := Lib.hid hk
            replace HP := Lib.hid (HP.out.ext hx)
            replace HQ := Lib.hid (HQ.out.ext hx)
            replace HA := Lib.hid (HA.out.ext hx)
            clear hla hlb hk hx
            go_wp2_with fail
            refine hK.out _ _ (KT.of HBX.out HX.out) (fun hH => ?_)
            clear hK K hH
            (try simp only [Act.put, List.getElem_toArray, List.getElem_cons_succ, List.getElem_cons_zero, List.setIfInBounds_toArray, List.set_cons_zero, List.set_cons_succ])
            have b0 := HP.out.b.cell 0; have b1 := HP.out.b.cell 1; have b2 := HP.out.b.cell 2; have b3 := HP.out.b.cell 3; have b4 := HP.out.b.cell 4
            have k0 := HP.out.b.frozen 0; have k1 := HP.out.b.frozen 1; have k2 := HP.out.b.frozen 2; have k3 := HP.out.b.frozen 3; have k4 := HP.out.b.frozen 4
            have d0 := HQ.out.b.cell 0; have d1 := HQ.out.b.cell 1; have d2 := HQ.out.b.cell 2; have d3 := HQ.out.b.cell 3; have d4 := HQ.out.b.cell 4
            have m0' := HQ.out.b.frozen 0; have m1 := HQ.out.b.frozen 1; have m2 := HQ.out.b.frozen 2; have m3 := HQ.out.b.frozen 3; have m4 := HQ.out.b.frozen 4
            simp at b0 b1 b2 b3 b4 d0 d1 d2 d3 d4
            have e1 := HNE.out; have e2 := Ne.symm HNE.out
            refine wpAnyH_ready (rs := [21]) (by kernel_rfl) (by simp) (AllReadyH.cons rfl (fun K hK => ?_) AllReadyH.nil)
            go_simp
            refine hK.out _ _ (KT.of HBX.out (ext_stow HX.out HP.out.lo _ _ _ _ _)) (fun hH => ?_)
            clear hK K hH
            (try simp only [Act.put, List.getElem_toArray, List.getElem_cons_succ, List.getElem_cons_zero, List.setIfInBounds_toArray, List.set_cons_zero, List.set_cons_succ])
            refine wpAnyH_ready (rs := [22]) (by kernel_rfl) (by simp) (AllReadyH.cons rfl (fun K hK => ?_) AllReadyH.nil)
            go_simp
            refine hK.out _ _ (KT.of HBX.out (ext_stow (ext_stow HX.out HP.out.lo _ _ _ _ _) HQ.out.lo _ _ _ _ _)) (fun hH => ?_)
            clear hK K hH b0 b1 b2 b3 b4 k0 k1 k2 k3 k4 d0 d1 d2 d3 d4 m0' m1 m2 m3 m4 e1 e2
            (try simp only [Act.put, List.getElem_toArray, List.getElem_cons_succ, List.getElem_cons_zero, List.setIfInBounds_toArray, List.set_cons_zero, List.set_cons_succ])
            refine wpAnyH_done (by kernel_rfl) ?_ _
            refine NoPanic.normal ?_
            go_wp2_with fail
            go_meet
            case rel => exact ⟨gp, gq, F1, f1, G1, g1, F2, f2, G2, g2, rfl, rfl, Lib.hid (two_put f1 g1 f2 g2 HX.out HP.out HQ.out HNE.out HA.out HB.out)⟩
    · go_simp
      have hx := Ext.alloc w0 (.cells z5 31)
      have hn := Bk.new HX.out
      refine hK.out _ _ (KT.of HBX.out (HX.out.trans hx)) (fun hH => ?_)
      clear hK K hH
      (try simp only [Act.put, List.getElem_toArray, List.getElem_cons_succ, List.getElem_cons_zero, List.setIfInBounds_toArray, List.set_cons_zero, List.set_cons_succ])
      obtain ⟨w1, hw⟩ : ∃ w1, w0.alloc (.cells z5 31) = w1 := ⟨_, rfl⟩
      rw [hw] at hx hn
      replace HX := Lib.hid (HX.out.trans hx)
      have HQ := Lib.hid hn
      rw [show w0.alloc (.cells #[.int .i64 0, .int .i64 0, .int .i64 0, .slice none 0 0, .slice none 0 0] 31) = w1 from hw]
      clear hw hx hn
      generalize w0.heap.size = gq at *
      refine wpAnyH_ready (rs := [7, 19]) (by kernel_rfl) (by simp) (AllReadyH.cons rfl (fun K hK => ?_) (AllReadyH.cons rfl (fun K hK => ?_) AllReadyH.nil))
      · go_simp
        go_at_call 10; refine (HA0.out _ HX.out).mono ?_
        rintro e w2 ⟨F1, f1, G1, g1, rfl, hla, hlb, hk, hx⟩
        replace HX := Lib.hid (HX.out.trans hx)
        have HA := Lib.hid (Lo.mk hla.lies hlb.lies)
        have HKA := Lib.hid hk
        replace HQ := Lib.hid (HQ.out.ext hx)
        clear hla hlb hk hx
        go_wp2_with fail
        refine hK.out _ _ (KT.of HBX.out HX.out) (fun hH => ?_)
        clear hK K hH
        (try simp only [Act.put, List.getElem_toArray, List.getElem_cons_succ, List.getElem_cons_zero, List.setIfInBounds_toArray, List.set_cons_zero, List.set_cons_succ])
        refine wpAnyH_ready (rs := [18, 19]) (by kernel_rfl) (by simp) (AllReadyH.cons rfl (fun K hK => ?_) (AllReadyH.cons rfl (fun K hK => ?_) AllReadyH.nil))
        · go_simp
          go_at_call 10; refine (HB0.out _ HX.out).mono ?_
          rintro e w3 ⟨F2, f2, G2, g2, rfl, hla, hlb, hk, hx⟩
          replace HX := Lib.hid (HX.out.trans hx)
          have HB := Lib.hid (Lo.mk hla.lies hlb.lies)
          have HKB := Lib.hid hk
          replace HQ := Lib.hid (HQ.out.ext hx)
          replace HA := Lib.hid (HA.out.ext hx)
          clear hla hlb hk hx
          go_wp2_with fail
          refine hK.out _ _ (KT.of HBX.out HX.out) (fun hH => ?_)
          clear hK K hH
          (try simp only [Act.put, List.getElem_toArray, List.getElem_cons_succ, List.getElem_cons_zero, List.setIfInBounds_toArray, List.set_cons_zero, List.set_cons_succ])
          refine wpAnyH_ready (rs := [19]) (by kernel_rfl) (by simp) (AllReadyH.cons rfl (fun K hK => ?_) AllReadyH.nil)
          · go_simp
            have hx := Ext.alloc w3 (.cells z5 31)
            have hn := Bk.new HX.out
            refine hK.out _ _ (KT.of HBX.out (HX.out.trans hx)) (fun hH => ?_)
            clear hK K hH
            (try simp only [Act.put, List.getElem_toArray, List.getElem_cons_succ, List.getElem_cons_zero, List.setIfInBounds_toArray, List.set_cons_zero, List.set_cons_succ])
            have hlt := HQ.out.b.lt
            obtain ⟨w4, hw⟩ : ∃ w4, w3.alloc (.cells z5 31) = w4 := ⟨_, rfl⟩
            rw [hw] at hx hn
            replace HX := Lib.hid (HX.out.trans hx)
            have HP := Lib.hid hn
            replace HQ := Lib.hid (HQ.out.ext hx)
            replace HA := Lib.hid (HA.out.ext hx)
            replace HB := Lib.hid (HB.out.ext hx)
            rw [show w3.alloc (.cells #[.int .i64 0, .int .i64 0, .int .i64 0, .slice none 0 0, .slice none 0 0] 31) = w4 from hw]
            clear hw hx hn
            generalize w3.heap.size = gp at *
            have HNE := Lib.hid (show gp ≠ gq by omega)
            clear hlt
            have b0 := HP.out.b.cell 0; have b1 := HP.out.b.cell 1; have b2 := HP.out.b.cell 2; have b3 := HP.out.b.cell 3; have b4 := HP.out.b.cell 4
            have k0 := HP.out.b.frozen 0; have k1 := HP.out.b.frozen 1; have k2 := HP.out.b.frozen 2; have k3 := HP.out.b.frozen 3; have k4 := HP.out.b.frozen 4
            have d0 := HQ.out.b.cell 0; have d1 := HQ.out.b.cell 1; have d2 := HQ.out.b.cell 2; have d3 := HQ.out.b.cell 3; have d4 := HQ.out.b.cell 4
            have m0' := HQ.out.b.frozen 0; have m1 := HQ.out.b.frozen 1; have m2 := HQ.out.b.frozen 2; have m3 := HQ.out.b.frozen 3; have m4 := HQ.out.b.frozen 4
            simp at b0 b1 b2 b3 b4 d0 d1 d2 d3 d4
            have e1 := HNE.out; have e2 := Ne.symm HNE.out
            refine wpAnyH_ready (rs := [21]) (by kernel_rfl) (by simp) (AllReadyH.cons rfl (fun K hK => ?_) AllReadyH.nil)
            go_simp
            refine hK.out _ _ (KT.of HBX.out (ext_stow HX.out HP.out.lo _ _ _ _ _)) (fun hH => ?_)
            clear hK K hH
            (try simp only [Act.put, List.getElem_toArray, List.getElem_cons_succ, List.getElem_cons_zero, List.setIfInBounds_toArray, List.set_cons_zero, List.set_cons_succ])
            refine wpAnyH_ready (rs := [22]) (by kernel_rfl) (by simp) (AllReadyH.cons rfl (fun K hK => ?_) AllReadyH.nil)
            go_simp
            refine hK.out _ _ (KT.of HBX.out (ext_stow (ext_stow HX.out HP.out.lo _ _ _ _ _) HQ.out.lo _ _ _ _ _)) (fun hH => ?_)
            clear hK K hH b0 b1 b2 b3 b4 k0 k1 k2 k3 k4 d0 d1 d2 d3 d4 m0' m1 m2 m3 m4 e1 e2
            (try simp only [Act.put, List.getElem_toArray, List.getElem_cons_succ, List.getElem_cons_zero, List.setIfInBounds_toArray, List.set_cons_zero, List.set_cons_succ])
            refine wpAnyH_done (by kernel_rfl) ?_ _
            refine NoPanic.normal ?_
            go_wp2_with fail
            go_meet
            case rel => exact ⟨gp, gq, F1, f1, G1, g1, F2, f2, G2, g2, rfl, rfl, Lib.hid (two_put f1 g1 f2 g2 HX.out HP.out HQ.out HNE.out HA.out HB.out)⟩
        · go_simp
          have hx := Ext.alloc w2 (.cells z5 31)
          have hn := Bk.new HX.out
          refine hK.out _ _ (KT.of HBX.out (HX.out.trans hx)) (fun hH => ?_)
          clear hK K hH
          (try simp only [Act.put, List.getElem_toArray, List.getElem_cons_succ, List.getElem_cons_zero, List.setIfInBounds_toArray, List.set_cons_zero, List.set_cons_succ])
          have hlt := HQ.out.b.lt
          obtain ⟨w3, hw⟩ : ∃ w3, w2.alloc (.cells z5 31) = w3 := ⟨_, rfl⟩
          rw [hw] at hx hn
          replace HX := Lib.hid (HX.out.trans hx)
          have HP := Lib.hid hn
          replace HQ := Lib.hid (HQ.out.ext hx)
          replace HA := Lib.hid (HA.out.ext hx)
          rw [show w2.alloc (.cells #[.int .i64 0, .int .i64 0, .int .i64 0, .slice none 0 0, .slice none 0 0] 31) = w3 from hw]
          clear hw hx hn
          generalize w2.heap.size = gp at *
          have HNE := Lib.hid (show gp ≠ gq by omega)
          clear hlt
          refine wpAnyH_ready (rs := [18]) (by kernel_rfl) (by simp) (AllReadyH.cons rfl (fun K hK => ?_) AllReadyH.nil)
          · go_simp
            go_at_call 10; refine (HB0.out _ HX.out).mono ?_
            rintro e w4 ⟨F2, f2, G2, g2, rfl, hla, hlb, hk, hx⟩
            replace HX := Lib.hid (HX.out.trans hx)
            have HB := Lib.hid (Lo.mk hla.lies hlb.lies)
            have HKB := Lib.hid hk
            replace HP := Lib.hid (HP.out.ext hx)
            replace HQ := Lib.hid (HQ.out.ext hx)
            replace HA := Lib.hid (HA.out.ext hx)
            clear hla hlb hk hx
            go_wp2_with fail
            refine hK.out _ _ (KT.of HBX.out HX.out) (fun hH => ?_)
            clear hK K hH
            (try simp only [Act.put, List.getElem_toArray, List.getElem_cons_succ, List.getElem_cons_zero, List.setIfInBounds_toArray, List.set_cons_zero, List.set_cons_succ])
            have b0 := HP.out.b.cell 0; have b1 := HP.out.b.cell 1; have b2 := HP.out.b.cell 2; have b3 := HP.out.b.cell 3; have b4 := HP.out.b.cell 4
            have k0 := HP.out.b.frozen 0; have k1 := HP.out.b.frozen 1; have k2 := HP.out.b.frozen 2; have k3 := HP.out.b.frozen 3; have k4 := HP.out.b.frozen 4
            have d0 := HQ.out.b.cell 0; have d1 := HQ.out.b.cell 1; have d2 := HQ.out.b.cell 2; have d3 := HQ.out.b.cell 3; have d4 := HQ.out.b.cell 4
            have m0' := HQ.out.b.frozen 0; have m1 := HQ.out.b.frozen 1; have m2 := HQ.out.b.frozen 2; have m3 := HQ.out.b.frozen 3; have m4 := HQ.out.b.frozen 4
            simp at b0 b1 b2 b3 b4 d0 d1 d2 d3 d4
            have e1 := HNE.out; have e2 := Ne.symm HNE.out
            refine wpAnyH_ready (rs := [21]) (by kernel_rfl) (by simp) (AllReadyH.cons rfl (fun K hK => ?_) AllReadyH.nil)
            go_simp
            refine hK.out _ _ (KT.of HBX.out (ext_stow HX.out HP.out.lo _ _ _ _ _)) (fun hH => ?_)
            clear hK K hH
            (try simp only [Act.put, List.getElem_toArray, List.getElem_cons_succ, List.getElem_cons_zero, List.setIfInBounds_toArray, List.set_cons_zero, List.set_cons_succ])
            refine wpAnyH_ready (rs := [22]) (by kernel_rfl) (by simp) (AllReadyH.cons rfl (fun K hK => ?_) AllReadyH.nil)
            go_simp
            refine hK.out _ _ (KT.of HBX.out (ext_stow (ext_stow HX.out HP.out.lo _ _ _ _ _) HQ.out.lo _ _ _ _ _)) (fun hH => ?_)
            clear hK K hH b0 b1 b2 b3 b4 k0 k1 k2 k3 k4 d0 d1 d2 d3 d4 m0' m1 m2 m3 m4 e1 e2
            (try simp only [Act.put, List.getElem_toArray, List.getElem_cons_succ, List.getElem_cons_zero, List.setIfInBounds_toArray, List.set_cons_zero, List.set_cons_succ])
            refine wpAnyH_done (by kernel_rfl) ?_ _
            refine NoPanic.normal ?_
            go_wp2_with fail
            go_meet
            case rel => exact ⟨gp, gq, F1, f1, G1, g1, F2, f2, G2, g2, rfl, rfl, Lib.hid (two_put f1 g1 f2 g2 HX.out HP.out HQ.out HNE.out HA.out HB.out)⟩
      · go_simp
        have hx := Ext.alloc w1 (.cells z5 31)
        have hn := Bk.new HX.out
        refine hK.out _ _ (KT.of HBX.out (HX.out.trans hx)) (fun hH => ?_)
        clear hK K hH
        (try simp only [Act.put, List.getElem_toArray, List.getElem_cons_succ, List.getElem_cons_zero, List.setIfInBounds_toArray, List.set_cons_zero, List.set_cons_succ])
        have hlt := HQ.out.b.lt
        obtain ⟨w2, hw⟩ : ∃ w2, w1.alloc (.cells z5 31) = w2 := ⟨_, rfl⟩
        rw [hw] at hx hn
        replace HX := Lib.hid (HX.out.trans hx)
        have HP := Lib.hid hn
        replace HQ := Lib.hid (HQ.out.ext hx)
        rw [show w1.alloc (.cells #[.int .i64 0, .int .i64 0, .int .i64 0, .slice none 0 0, .slice none 0 0] 31) = w2 from hw]
        clear hw hx hn
        generalize w1.heap.size = gp at *
        have HNE := Lib.hid (show gp ≠ gq by omega)
        clear hlt
        refine wpAnyH_ready (rs := [7]) (by kernel_rfl) (by simp) (AllReadyH.cons rfl (fun K hK => ?_) AllReadyH.nil)
        · go_simp
          go_at_call 10; refine (HA0.out _ HX.out).mono ?_
          rintro e w3 ⟨F1, f1, G1, g1, rfl, hla, hlb, hk, hx⟩
          replace HX := Lib.hid (HX.out.trans hx)
          have HA := Lib.hid (Lo.mk hla.lies hlb.lies)
          have HKA := Lib.hid hk
          replace HP := Lib.hid (HP.out.ext hx)
          replace HQ := Lib.hid (HQ.out.ext hx)
          clear hla hlb hk hx
          go_wp2_with fail
          refine hK.out _ _ (KT.of HBX.out HX.out) (fun hH => ?_)
          clear hK K hH
          (try simp only [Act.put, List.getElem_toArray, List.getElem_cons_succ, List.getElem_cons_zero, List.setIfInBounds_toArray, List.set_cons_zero, List.set_cons_succ])
          refine wpAnyH_ready (rs := [18]) (by kernel_rfl) (by simp) (AllReadyH.cons rfl (fun K hK => ?_) AllReadyH.nil)
          · go_simp
            go_at_call 10; refine (HB0.out _ HX.out).mono ?_
            rintro e w4 ⟨F2, f2, G2, g2, rfl, hla, hlb, hk, hx⟩
            replace HX := Lib.hid (HX.out.trans hx)
            have HB := Lib.hid (Lo.mk hla.lies hlb.lies)
            have HKB := Lib.hid hk
            replace HP := Lib.hid (HP.out.ext hx)
            replace HQ := Lib.hid (HQ.out.ext hx)
            replace HA := Lib.hid (HA.out.ext hx)
            clear hla hlb hk hx
            go_wp2_with fail
            refine hK.out _ _ (KT.of HBX.out HX.out) (fun hH => ?_)
            clear hK K hH
            (try simp only [Act.put, List.getElem_toArray, List.getElem_cons_succ, List.getElem_cons_zero, List.setIfInBounds_toArray, List.set_cons_zero, List.set_cons_succ])
            have b0 := HP.out.b.cell 0; have b1 := HP.out.b.cell 1; have b2 := HP.out.b.cell 2; have b3 := HP.out.b.cell 3; have b4 := HP.out.b.cell 4
            have k0 := HP.out.b.frozen 0; have k1 := HP.out.b.frozen 1; have k2 := HP.out.b.frozen 2; have k3 := HP.out.b.frozen 3; have k4 := HP.out.b.frozen 4
            have d0 := HQ.out.b.cell 0; have d1 := HQ.out.b.cell 1; have d2 := HQ.out.b.cell 2; have d3 := HQ.out.b.cell 3; have d4 := HQ.out.b.cell 4
            have m0' := HQ.out.b.frozen 0; have m1 := HQ.out.b.frozen 1; have m2 := HQ.out.b.frozen 2; have m3 := HQ.out.b.frozen 3; have m4 := HQ.out.b.frozen 4
            simp at b0 b1 b2 b3 b4 d0 d1 d2 d3 d4
            have e1 := HNE.out; have e2 := Ne.symm HNE.out
            refine wpAnyH_ready (rs := [21]) (by kernel_rfl) (by simp) (AllReadyH.cons rfl (fun K hK => ?_) AllReadyH.nil)
            go_simp
            refine hK.out _ _ (KT.of HBX.out (ext_stow HX.out HP.out.lo _ _ _ _ _)) (fun hH => ?_)
            clear hK K hH
            (try simp only [Act.put, List.getElem_toArray, List.getElem_cons_succ, List.getElem_cons_zero, List.setIfInBounds_toArray, List.set_cons_zero, List.set_cons_succ])
            refine wpAnyH_ready (rs := [22]) (by kernel_rfl) (by simp) (AllReadyH.cons rfl (fun K hK => ?_) AllReadyH.nil)
            go_simp
            refine hK.out _ _ (KT.of HBX.out (ext_stow (ext_stow HX.out HP.out.lo _ _ _ _ _) HQ.out.lo _ _ _ _ _)) (fun hH => ?_)
            clear hK K hH b0 b1 b2 b3 b4 k0 k1 k2 k3 k4 d0 d1 d2 d3 d4 m0' m1 m2 m3 m4 e1 e2
            (try simp only [Act.put, List.getElem_toArray, List.getElem_cons_succ, List.getElem_cons_zero, List.setIfInBounds_toArray, List.set_cons_zero, List.set_cons_succ])
            refine wpAnyH_done (by kernel_rfl) ?_ _
            refine NoPanic.normal ?_
            go_wp2_with fail
            go_meet
            case rel => exact ⟨gp, gq, F1, f1, G1, g1, F2, f2, G2, g2, rfl, rfl, Lib.hid (two_put f1 g1 f2 g2 HX.out HP.out HQ.out HNE.out HA.out HB.out)⟩
  case rest =>
  obtain ⟨gp, gq, F1, f1, G1, g1, F2, f2, G2, g2, rfl, rfl, HTW⟩ := hcut
  clear HA0 HB0 HF HBX HK hwk hwk8 HY9
  have HX4 := Lib.hid (HX2.out.trans HTW.out.e)
  have x2 := HTW.out.x.b.cell 2
  simp at x2
  by_cases he : R1.er = 80
  · obtain ⟨hl1, tt, htt⟩ := HMO.out he
    have hl2 : n ≤ R2.ls.length := by rw [htt, List.length_append, hl1]; omega
    have hat : ∀ (j : Nat) (l : L), R1.ls[j]? = some l → R2.ls[j]? = some l := fun j l hj => by
      rw [htt, List.getElem?_append_left (List.getElem?_eq_some_iff.1 hj).1]; exact hj
    have hm9 : R2.ls.length ≤ 600 := by have := HLN2.out; have := HN.out; have := HKB.out; omega
    have x0 : wc.cell? ⟨gp, 0, none⟩ = some (.int .i64 (n : Int)) := by have := HTW.out.x.b.cell 0; rw [← hl1]; exact this
    have x4 : wc.cell? ⟨gp, 4, none⟩ = some (.slice G1 n g1) := by have := HTW.out.x.b.cell 4; rw [show (tl true R1.ls).length = n from hl1] at this; exact this
    have y0 : wc.cell? ⟨gq, 0, none⟩ = some (.int .i64 (R2.ls.length : Int)) := HTW.out.y.b.cell 0
    have y4 : wc.cell? ⟨gq, 4, none⟩ = some (.slice G2 R2.ls.length g2) := HTW.out.y.b.cell 4
    have HLA := Lib.hid (show Lies wc G1 (R1.ls.flatMap lcl) from HTW.out.x.lb)
    have HLB := Lib.hid (show Lies wc G2 (R2.ls.flatMap lcl) from HTW.out.y.lb)
    have HAT := Lib.hid hat; have HL1 := Lib.hid hl1; have HM9 := Lib.hid hm9
    rw [he] at x2
    generalize R2.ls.length = m at *
    have hnm : ¬ m < n := by omega
    have hn9 := HN.out
    have HX0 := Lib.hid x0; have HX4' := Lib.hid x4; have HY0 := Lib.hid y0; have HY4 := Lib.hid y4
    clear htt hat hl1 hm9 HSA HMO HLN HLN2 he
    go_upto_region 9 with fail
    clear x2 x0 x4 y0 y4
    go_wp2_with fail
    go_loopw [9] (fun vi wr => ∃ j : Nat, j ≤ n ∧ vi = .int .i64 j ∧ Hid (Ext wc wr)) (fun vi _ => n - (intOf vi).toNat)
    case atStart => exact ⟨0, by omega, rfl, Lib.hid (Ext.refl _)⟩
    case round =>
      obtain ⟨j, hj, rfl, HQ⟩ := hrel
      have x4 := cell_ext HQ.out HX4'.out; have y4 := cell_ext HQ.out HY4.out
      by_cases hlt : j < n
      · obtain ⟨l, hkl⟩ : ∃ l, R1.ls[j]? = some l := ⟨_, List.getElem?_eq_getElem (by rw [HL1.out]; exact hlt)⟩
        obtain ⟨b, o, rfl, _, a0, a1, a2, a3, a4, a5, a6, a7, a8, a9⟩ := leak_at (HQ.out.lies HLA.out) hkl
        obtain ⟨b', o', rfl, _, b0, b1, b2, b3, b4, b5, b6, b7, b8, b9⟩ := leak_at (HQ.out.lies HLB.out) (HAT.out j l hkl)
        have hE := eq_leak l
        have hG : Tryd.prog.eqGuardType Tryd.prog.depth 39 = false := by kernel_rfl
        have hjm : j < m := by omega
        clear hkl
        go_wp2_with fail
        go_quiet (fail)
        go_wp2_with fail
        go_roundw
        case rel => exact ⟨j + 1, by omega, by go_num, Lib.hid (ext_drewN HQ.out nq)⟩
        case measure => simp [intOf]; omega
      · go_wp2_with fail
        refine (lives wr (HT.out.below (HX4.out.trans HQ.out))).mono ?_
        rintro en w9 ⟨rfl, hb⟩
        have HX9 := Lib.hid (HX4.out.trans (HQ.out.trans (show Ext wr w9 from hb)))
        clear hb
        go_wp2_with fail
        go_ret
        exact ⟨rfl, HX9.out⟩
  · have hne : (R1.er != 80) = true := by simpa using he
    have e := HSA.out he
    rw [e] at HTW
    have HLN9 := Lib.hid (show R1.ls.length ≤ 100000 by have := HLN.out; have := HN.out; omega)
    have HD9 := Lib.hid (show R1.m.W.length ≤ 100000 by rw [HTT.out]; have := T2'.out; omega)
    clear HSA HMO HLN HLN2 he e
    have x0 := HTW.out.x.b.cell 0; have x1 := HTW.out.x.b.cell 1; have x3 := HTW.out.x.b.cell 3; have x4 := HTW.out.x.b.cell 4
    have y0 := HTW.out.y.b.cell 0; have y1 := HTW.out.y.b.cell 1; have y2 := HTW.out.y.b.cell 2; have y3 := HTW.out.y.b.cell 3; have y4 := HTW.out.y.b.cell 4
    simp at x0 x1 x3 x4 y0 y1 y2 y3 y4
    go_wp2_with fail
    refine (sameO R1.ls.length R1.m.d R1.er F1 F2 G1 G2 f1 f2 g1 g2 R1.m.W (tl true R1.ls) wc HTW.out.x.la HTW.out.y.la HTW.out.x.lb HTW.out.y.lb HD9.out HLN9.out).mono ?_
    rintro en w8 ⟨rfl, hb⟩
    have HX8 := Lib.hid (HX4.out.trans hb)
    clear hb x0 x1 x2 x3 x4 y0 y1 y2 y3 y4
    go_wp2_with fail
    refine (lives w8 (HT.out.below HX8.out)).mono ?_
    rintro en w9 ⟨rfl, hb⟩
    have HX9 := Lib.hid (HX8.out.trans (show Ext w8 w9 from hb))
    clear hb
    go_wp2_with fail
    go_ret
    exact ⟨rfl, HX9.out⟩
end Go.Proofs.YtkafmpdjpjgkgaaDoor.Rn
