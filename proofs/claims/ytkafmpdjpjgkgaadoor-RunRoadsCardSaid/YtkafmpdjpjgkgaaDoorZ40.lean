/- DERIVED. RnRo in one text. By an AI agent. -/
import Derived.Test.YtkafmpdjpjgkgaaDoorZ35
import Derived.Test.YtkafmpdjpjgkgaaDoorZ39
import Derived.Deep.RegionHeld3
import Derived.Deep.DeepCutAuto
import Derived.Lib.QuietBelow
import Derived.BigRegion
/- DERIVED. The walk of RunRoads. By an AI agent. -/
namespace Go.Proofs.YtkafmpdjpjgkgaaDoor.Rn
open Go.ChangeShapes Go.WideShapes Go.ChangeAt Go.RowKit WMath Word Args Mm Co Lk
set_option linter.unusedVariables false
set_option linter.unusedSimpArgs false
/-- What stays while two outcomes are made: both boxes of cases. -/
abbrev KT2 (wz : World) (q p : Nat) (x y z x' y' z' : Value) (w : World) : Prop := Ext wz w ∧ (w.cell? ⟨q, 0, none⟩ = some x ∧ w.cell? ⟨q, 1, none⟩ = some y ∧ w.cell? ⟨q, 2, none⟩ = some z) ∧ (w.cell? ⟨p, 0, none⟩ = some x' ∧ w.cell? ⟨p, 1, none⟩ = some y' ∧ w.cell? ⟨p, 2, none⟩ = some z')
theorem KT2.of {wz w : World} {q p : Nat} {C D T C' D' T' : List Int} {A1 A2 A3 E1 E2 E3 : Option Addr} {c1 c2 c3 e1 e2 e3 : Nat} (h : Bx q C D T A1 c1 A2 c2 A3 c3 wz) (k : Bx p C' D' T' E1 e1 E2 e2 E3 e3 wz) (hx : Ext wz w) : KT2 wz q p (.slice A1 C.length c1) (.slice A2 D.length c2) (.slice A3 T.length c3) (.slice E1 C'.length e1) (.slice E2 D'.length e2) (.slice E3 T'.length e3) w :=
  ⟨hx, ⟨(h.ext hx).b.cell 0, (h.ext hx).b.cell 1, (h.ext hx).b.cell 2⟩, (k.ext hx).b.cell 0, (k.ext hx).b.cell 1, (k.ext hx).b.cell 2⟩
theorem ext_regrown (w : World) (d : Nat) (os : Array Obj) : Ext w (Go.Sort.grow (redrawn w d) os) := below_regrown w d os
/-- What a leak's halfword is. -/
theorem leakV_h (s : S) (m : St) (hf : Fit m) : (leakV s m).l.h < 65536 := by
  unfold leakV
  split
  · show (fetchV m (s.pc.toNat : Int)).1.toNat < 65536
    have := fetch_in hf (s.pc.toNat : Int); omega
  · show (0 : Nat) < 65536; decide
theorem run_h : ∀ (f : Nat) (s : S) (m : St), Fit m → ∀ l ∈ (runV f s m).ls, l.h < 65536
  | 0, _, _, _, l, hl => by cases hl
  | f + 1, s, m, hf, l, hl => by
    have h0 := leakV_h s m hf
    have h1 : Fit (leakV s m).m := by rw [leakV_m]; exact stepV_fit s m hf
    unfold runV at hl
    split at hl
    · split at hl
      · have e : l = (leakV s m).l := by simpa using hl
        rw [e]; exact h0
      · rcases List.mem_cons.1 hl with e | hl2
        · rw [e]; exact h0
        · exact run_h f _ _ h1 l hl2
    · cases hl
set_option maxRecDepth 100000 in
set_option maxHeartbeats 16000000 in
theorem runRoads.walk (W : World) (v : Value) (C D T : List Int) (h : IsCase W v C D T) (v2 : Value) (P : List Int) (hP : Ints .u32 4 W v2 P) (v3 : Value) (Q : List Int) (hQ : Ints .u32 4 W v3 Q) (hT : Tp.Tb W) :
    Calls Tryd.prog 5 #[v, v2, v3] W fun e w' => e = .returned (.bool true) ∧ Below W.heap.size W w' := by
  obtain ⟨A1, c1, A2, c2, A3, c3, rfl, hcap, hC, hD, hE, hfit⟩ := h.open_
  obtain ⟨A4, c4, rfl, hl4, hm4, hL4⟩ := hP.ex
  obtain ⟨A5, c5, rfl, hl5, hm5, hL5⟩ := hQ.ex
  have hfit2 : Fit (m0 (C.take 100) (P.take 30) (Q.take 50)) := ⟨hfit.c, fun z hz => in_u32 (hP.wf z (List.mem_of_mem_take hz)), fun z hz => in_u32 (hQ.wf z (List.mem_of_mem_take hz)), Nat.zero_le _, ⟨Int.le_refl 0, by show (0 : Int) < 4294967296; decide⟩, hfit.cl, by show (P.take 30).length ≤ 16000; rw [List.length_take]; omega, by show (Q.take 50).length ≤ _; rw [List.length_take]; omega⟩
  clear h hP hQ
  have hsm := small A1 c1 C A2 c2 D A3 c3 T (W.alloc (.cells (kC C D T A1 c1 A2 c2 A3 c3) 25)) ((Ext.alloc _ _).lies hC) ((Ext.alloc _ _).lies hD) ((Ext.alloc _ _).lies hE) hcap.1 hcap.2.1 hcap.2.2.1 hcap.2.2.2.1 hcap.2.2.2.2.1 hcap.2.2.2.2.2
  have hb0 := Blk.new W 25 (kC C D T A1 c1 A2 c2 A3 c3)
  have hx0 := Ext.alloc W (.cells (kC C D T A1 c1 A2 c2 A3 c3) 25)
  have hs0 : (W.alloc (.cells (kC C D T A1 c1 A2 c2 A3 c3) 25)).heap.size = W.heap.size + 1 := World.size_alloc _ _
  have t1 := take_len C 100; have t2 := take_len D 30; have t3 := take_len T 50; have t4 := take_len P 30; have t5 := take_len Q 50
  have u1 := take_take C 100
  have hsm2 := fun (B1 : Option Addr) (d1 : Nat) (w : World) (hx : Ext W w) (hl : Lies w B1 ((C.take 100).map (.int .u16))) (h1 : (C.take 100).length ≤ d1) (h2 : d1 ≤ maxLen) => small B1 d1 (C.take 100) A4 c4 P A5 c5 Q w hl (hx.lies hL4) (hx.lies hL5) h1 h2 hl4 hm4 hl5 hm5
  rw [u1] at hsm2
  generalize C.take 100 = C1 at *
  generalize D.take 30 = D1 at *
  generalize T.take 50 = T1 at *
  generalize P.take 30 = D2 at *
  generalize Q.take 50 = T2 at *
  have HSM := Lib.hid hsm; have HSM2 := Lib.hid hsm2; have HB0 := Lib.hid hb0; have HX0 := Lib.hid hx0; have HS0 := Lib.hid hs0
  have T2' := Lib.hid t2; have T3' := Lib.hid t3; have T4' := Lib.hid t4; have T5' := Lib.hid t5; have HF := Lib.hid hfit; have HF2 := Lib.hid hfit2; have HT := Lib.hid hT
  clear hsm hsm2 hb0 hx0 hs0 t1 t2 t3 t4 t5 u1 hfit hfit2 hT hC hD hE hcap hl4 hm4 hL4 hl5 hm5 hL5
  go_enter Tryd.func5, Tryd.ntmps5
  go_upto_region 1 with fail
  generalize W.alloc (.cells #[.slice A1 C.length c1, .slice A2 D.length c2, .slice A3 T.length c3] 25) = w0 at *
  have x0 := HB0.out.cell 0; have x1 := HB0.out.cell 1; have x2 := HB0.out.cell 2
  simp at x0 x1 x2
  go_wp2_with fail
  refine HSM.out.mono ?_
  rintro e w1 ⟨B1, d1, B2, d2, B3, d3, rfl, hk, hl1, hl2, hl3, hx1⟩
  have HK := Lib.hid hk; have HL1 := Lib.hid hl1; have HL2 := Lib.hid hl2; have HL3 := Lib.hid hl3
  have HB1 := Lib.hid (HB0.out.below hx1 HB0.out.lt); have HX1 := Lib.hid (HX0.out.trans hx1)
  clear hk hl1 hl2 hl3 hx1 x0 x1 x2 HB0 HX0 HSM
  have x0 := HB1.out.cell 0; have x1 := HB1.out.cell 1; have x2 := HB1.out.cell 2
  have f0 := HB1.out.frozen 0; have f1 := HB1.out.frozen 1; have f2 := HB1.out.frozen 2
  simp at x0 x1 x2
  go_upto_region 2 with fail
  clear x0 x1 x2 f0 f1 f2
  obtain ⟨w2, hw2, hbx, hx2⟩ := bx_put (c1 := d1) (c2 := d2) (c3 := d3) HB1.out HX1.out (HS0.out ▸ HL1.out) (HS0.out ▸ HL2.out) (HS0.out ▸ HL3.out)
  simp only [stow3] at hw2
  rw [hw2]
  have HBX2 := Lib.hid hbx; have HX2 := Lib.hid hx2
  clear hw2 hbx hx2 HB1 HX1 HL1 HL2 HL3 HS0
  have x0 := HBX2.out.b.cell 0
  simp at x0
  go_wp2_with fail
  refine (HSM2.out B1 d1 w2 HX2.out HBX2.out.la HK.out.1 HK.out.2.1).mono ?_
  rintro e w3 ⟨E1, e1, E2, e2, E3, e3, rfl, hk3, hl1, hl2, hl3, hx3⟩
  have HK3 := Lib.hid hk3
  have HBX3 := Lib.hid (HBX2.out.ext hx3); have HX3 := Lib.hid (HX2.out.trans hx3)
  have HBY := Lib.hid (bx_new (c1 := e1) (c2 := e2) (c3 := e3) hl1 hl2 hl3)
  clear hk3 hl1 hl2 hl3 hx3 x0 HBX2 HX2 HSM2
  go_upto_region 3 with fail
  have hx4 := Ext.alloc w3 (.cells (kC C1 D2 T2 E1 e1 E2 e2 E3 e3) 25)
  have HBX := Lib.hid (HBX3.out.ext hx4); have HXZ := Lib.hid (HX3.out.trans hx4)
  clear hx4 HBX3 HX3
  generalize w3.alloc (.cells #[.slice E1 C1.length e1, .slice E2 D2.length e2, .slice E3 T2.length e3] 25) = wz at *
  generalize w3.heap.size = q0 at *
  have hA0 : ∀ w, Ext wz w → Calls Tryd.prog 10 #[.slice B1 C1.length d1, .slice B2 D1.length d2, .slice B3 T1.length d3, .int .i64 200] w (OutEnd (runV 200 zS (m0 C1 D1 T1)) true w) := fun w hx =>
    exec B1 d1 C1 B2 d2 D1 B3 d3 T1 200 200 200 w (hx.lies HBX.out.la) (hx.lies HBX.out.lb) (hx.lies HBX.out.lc) HK.out.1 HK.out.2.1 HK.out.2.2.1 HK.out.2.2.2.1 HF.out T2'.out (by have := T3'.out; omega) (by decide) (by decide) (by decide) (HT.out.below (HXZ.out.trans hx))
  have hB0 : ∀ w, Ext wz w → Calls Tryd.prog 10 #[.slice E1 C1.length e1, .slice E2 D2.length e2, .slice E3 T2.length e3, .int .i64 200] w (OutEnd (runV 200 zS (m0 C1 D2 T2)) true w) := fun w hx =>
    exec E1 e1 C1 E2 e2 D2 E3 e3 T2 200 200 200 w (hx.lies HBY.out.la) (hx.lies HBY.out.lb) (hx.lies HBY.out.lc) HK3.out.1 HK3.out.2.1 HK3.out.2.2.1 HK3.out.2.2.2.1 HF2.out T4'.out (by have := T5'.out; omega) (by decide) (by decide) (by decide) (HT.out.below (HXZ.out.trans hx))
  have hh := run_h 200 zS (m0 C1 D1 T1) HF.out
  have hlen := run_len 200 zS (m0 C1 D1 T1)
  have hlen2 := run_len 200 zS (m0 C1 D2 T2)
  generalize runV 200 zS (m0 C1 D1 T1) = R1 at *
  generalize runV 200 zS (m0 C1 D2 T2) = R2 at *
  have HA0 := Lib.hid hA0; have HB0 := Lib.hid hB0; have HH := Lib.hid hh; have HLN := Lib.hid hlen; have HLN2 := Lib.hid hlen2
  clear hA0 hB0 hh hlen hlen2
  go_cut [8, 9] (fun v7 v8 wx => ∃ gp gq F1 f1 G1 g1 F2 f2 G2 g2, v7 = .pointer (some ⟨gp, 0, none⟩) ∧ v8 = .pointer (some ⟨gq, 0, none⟩) ∧ Hid (Two wz gp gq R1 R2 true true F1 f1 G1 g1 F2 f2 G2 g2 wx) ∧ Hid ((tl true R1.ls).length ≤ g1 ∧ g1 ≤ maxLen))
  case first =>
    obtain ⟨w0, hw0⟩ : ∃ w0, wz.drew = w0 := ⟨_, rfl⟩
    have HX := Lib.hid (show Ext wz w0 from hw0 ▸ Ext.drew wz)
    have hS0 := KT2.of HBX.out HBY.out HX.out
    refine wp_region_noPanic ?_
    refine wp_region_held_drew (S := fun w' => KT2 wz W.heap.size q0 (.slice B1 C1.length d1) (.slice B2 D1.length d2) (.slice B3 T1.length d3) (.slice E1 C1.length e1) (.slice E2 D2.length e2) (.slice E3 T2.length e3) w') (by kernel_rfl) (KT2.of HBX.out HBY.out (Ext.drew wz)) (fun hH => ?_)
    rw [hw0]
    clear hw0 hH
    refine wpAnyH_take (i := 0) (v := ?_) rfl (by kernel_rfl) (by kernel_rfl) (by kernel_rfl) (fun _ _ _ h => h) (Or.inl ⟨by rfl, ?_⟩) hS0 ?_
    rotate_left
    · (intro w hSw; (try dsimp only at hSw); go_simp; try with_reducible rfl)
    (try simp only [Act.put, List.getElem_toArray, List.getElem_cons_succ, List.getElem_cons_zero, List.setIfInBounds_toArray, List.set_cons_zero, List.set_cons_succ])
    refine wpAnyH_take (i := 1) (v := ?_) rfl (by kernel_rfl) (by kernel_rfl) (by kernel_rfl) (fun _ _ _ h => h) (Or.inl ⟨by rfl, ?_⟩) hS0 ?_
    rotate_left
    · (intro w hSw; (try dsimp only at hSw); go_simp; try with_reducible rfl)
    (try simp only [Act.put, List.getElem_toArray, List.getElem_cons_succ, List.getElem_cons_zero, List.setIfInBounds_toArray, List.set_cons_zero, List.set_cons_succ])
    refine wpAnyH_take (i := 2) (v := ?_) rfl (by kernel_rfl) (by kernel_rfl) (by kernel_rfl) (fun _ _ _ h => h) (Or.inl ⟨by rfl, ?_⟩) hS0 ?_
    rotate_left
    · (intro w hSw; (try dsimp only at hSw); go_simp; try with_reducible rfl)
    (try simp only [Act.put, List.getElem_toArray, List.getElem_cons_succ, List.getElem_cons_zero, List.setIfInBounds_toArray, List.set_cons_zero, List.set_cons_succ])
    refine wpAnyH_take (i := 3) (v := ?_) rfl (by kernel_rfl) (by kernel_rfl) (by kernel_rfl) (fun _ _ _ h => h) (Or.inl ⟨by rfl, ?_⟩) hS0 ?_
    rotate_left
    · (intro w hSw; (try dsimp only at hSw); go_simp; try with_reducible rfl)
    (try simp only [Act.put, List.getElem_toArray, List.getElem_cons_succ, List.getElem_cons_zero, List.setIfInBounds_toArray, List.set_cons_zero, List.set_cons_succ])
    refine wpAnyH_take (i := 4) (v := ?_) rfl (by kernel_rfl) (by kernel_rfl) (by kernel_rfl) (fun _ _ _ h => h) (Or.inl ⟨by rfl, ?_⟩) hS0 ?_
    rotate_left
    · (intro w hSw; (try dsimp only at hSw); go_simp; try with_reducible rfl)
    (try simp only [Act.put, List.getElem_toArray, List.getElem_cons_succ, List.getElem_cons_zero, List.setIfInBounds_toArray, List.set_cons_zero, List.set_cons_succ])
    refine wpAnyH_take (i := 5) (v := ?_) rfl (by kernel_rfl) (by kernel_rfl) (by kernel_rfl) (fun _ _ _ h => h) (Or.inl ⟨by rfl, ?_⟩) hS0 ?_
    rotate_left
    · (intro w hSw; (try dsimp only at hSw); go_simp; try with_reducible rfl)
    (try simp only [Act.put, List.getElem_toArray, List.getElem_cons_succ, List.getElem_cons_zero, List.setIfInBounds_toArray, List.set_cons_zero, List.set_cons_succ])
    refine wpAnyH_take (i := 7) (v := ?_) rfl (by kernel_rfl) (by kernel_rfl) (by kernel_rfl) (fun _ _ _ h => h) (Or.inl ⟨by rfl, ?_⟩) hS0 ?_
    rotate_left
    · (intro w hSw; (try dsimp only at hSw); go_simp; try with_reducible rfl)
    (try simp only [Act.put, List.getElem_toArray, List.getElem_cons_succ, List.getElem_cons_zero, List.setIfInBounds_toArray, List.set_cons_zero, List.set_cons_succ])
    refine wpAnyH_take (i := 8) (v := ?_) rfl (by kernel_rfl) (by kernel_rfl) (by kernel_rfl) (fun _ _ _ h => h) (Or.inl ⟨by rfl, ?_⟩) hS0 ?_
    rotate_left
    · (intro w hSw; (try dsimp only at hSw); go_simp; try with_reducible rfl)
    (try simp only [Act.put, List.getElem_toArray, List.getElem_cons_succ, List.getElem_cons_zero, List.setIfInBounds_toArray, List.set_cons_zero, List.set_cons_succ])
    refine wpAnyH_take (i := 9) (v := ?_) rfl (by kernel_rfl) (by kernel_rfl) (by kernel_rfl) (fun _ _ _ h => h) (Or.inl ⟨by rfl, ?_⟩) hS0 ?_
    rotate_left
    · (intro w hSw; (try dsimp only at hSw); go_simp; try with_reducible rfl)
    (try simp only [Act.put, List.getElem_toArray, List.getElem_cons_succ, List.getElem_cons_zero, List.setIfInBounds_toArray, List.set_cons_zero, List.set_cons_succ])
    refine wpAnyH_take (i := 10) (v := ?_) rfl (by kernel_rfl) (by kernel_rfl) (by kernel_rfl) (fun _ _ _ h => h) (Or.inl ⟨by rfl, ?_⟩) hS0 ?_
    rotate_left
    · (intro w hSw; (try dsimp only at hSw); go_simp; try with_reducible rfl)
    (try simp only [Act.put, List.getElem_toArray, List.getElem_cons_succ, List.getElem_cons_zero, List.setIfInBounds_toArray, List.set_cons_zero, List.set_cons_succ])
    refine wpAnyH_take (i := 11) (v := ?_) rfl (by kernel_rfl) (by kernel_rfl) (by kernel_rfl) (fun _ _ _ h => h) (Or.inl ⟨by rfl, ?_⟩) hS0 ?_
    rotate_left
    · (intro w hSw; (try dsimp only at hSw); go_simp; try with_reducible rfl)
    (try simp only [Act.put, List.getElem_toArray, List.getElem_cons_succ, List.getElem_cons_zero, List.setIfInBounds_toArray, List.set_cons_zero, List.set_cons_succ])
    refine wpAnyH_take (i := 12) (v := ?_) rfl (by kernel_rfl) (by kernel_rfl) (by kernel_rfl) (fun _ _ _ h => h) (Or.inl ⟨by rfl, ?_⟩) hS0 ?_
    rotate_left
    · (intro w hSw; (try dsimp only at hSw); go_simp; try with_reducible rfl)
    (try simp only [Act.put, List.getElem_toArray, List.getElem_cons_succ, List.getElem_cons_zero, List.setIfInBounds_toArray, List.set_cons_zero, List.set_cons_succ])
    clear hS0
    refine wpAnyH_ready (rs := [6, 14, 15]) (by kernel_rfl) (by simp) (AllReadyH.cons rfl (fun K hK => ?_) (AllReadyH.cons rfl (fun K hK => ?_) (AllReadyH.cons rfl (fun K hK => ?_) AllReadyH.nil)))
    · go_simp
      go_at_call 10; refine (HA0.out _ HX.out).mono ?_
      rintro e w1 ⟨F1, f1, G1, g1, rfl, hla, hlb, hk, hx⟩
      replace HX := Lib.hid (HX.out.trans hx)
      have HA := Lib.hid (Lo.mk hla.lies hlb.lies)
      have HKA := Lib.hid hk
      clear hla hlb hk hx
      go_wp2_with fail
      refine hK.out _ _ (KT2.of HBX.out HBY.out HX.out) (fun hH => ?_)
      clear hK K hH
      (try simp only [Act.put, List.getElem_toArray, List.getElem_cons_succ, List.getElem_cons_zero, List.setIfInBounds_toArray, List.set_cons_zero, List.set_cons_succ])
      refine wpAnyH_ready (rs := [13, 14, 15]) (by kernel_rfl) (by simp) (AllReadyH.cons rfl (fun K hK => ?_) (AllReadyH.cons rfl (fun K hK => ?_) (AllReadyH.cons rfl (fun K hK => ?_) AllReadyH.nil)))
      · go_simp
        go_at_call 10; refine (HB0.out _ HX.out).mono ?_
        rintro e w2 ⟨F2, f2, G2, g2, rfl, hla, hlb, hk, hx⟩
        replace HX := Lib.hid (HX.out.trans hx)
        have HB := Lib.hid (Lo.mk hla.lies hlb.lies)
        have HKB := Lib.hid hk
        replace HA := Lib.hid (HA.out.ext hx)
        clear hla hlb hk hx
        go_wp2_with fail
        refine hK.out _ _ (KT2.of HBX.out HBY.out HX.out) (fun hH => ?_)
        clear hK K hH
        (try simp only [Act.put, List.getElem_toArray, List.getElem_cons_succ, List.getElem_cons_zero, List.setIfInBounds_toArray, List.set_cons_zero, List.set_cons_succ])
        refine wpAnyH_ready (rs := [14, 15]) (by kernel_rfl) (by simp) (AllReadyH.cons rfl (fun K hK => ?_) (AllReadyH.cons rfl (fun K hK => ?_) AllReadyH.nil))
        · go_simp
          have hx := Ext.alloc w2 (.cells z5 31)
          have hn := Bk.new HX.out
          refine hK.out _ _ (KT2.of HBX.out HBY.out (HX.out.trans hx)) (fun hH => ?_)
          clear hK K hH
          (try simp only [Act.put, List.getElem_toArray, List.getElem_cons_succ, List.getElem_cons_zero, List.setIfInBounds_toArray, List.set_cons_zero, List.set_cons_succ])
          obtain ⟨w3, hw⟩ : ∃ w3, w2.alloc (.cells z5 31) = w3 := ⟨_, rfl⟩
          rw [hw] at hx hn
          replace HX := Lib.hid (HX.out.trans hx)
          have HP := Lib.hid hn
          replace HA := Lib.hid (HA.out.ext hx)
          replace HB := Lib.hid (HB.out.ext hx)
          rw [show w2.alloc (.cells #[.int .i64 0, .int .i64 0, .int .i64 0, .slice none 0 0, .slice none 0 0] 31) = w3 from hw]
          clear hw hx hn
          generalize w2.heap.size = gp at *
          refine wpAnyH_ready (rs := [15]) (by kernel_rfl) (by simp) (AllReadyH.cons rfl (fun K hK => ?_) AllReadyH.nil)
          · go_simp
            have hx := Ext.alloc w3 (.cells z5 31)
            have hn := Bk.new HX.out
            refine hK.out _ _ (KT2.of HBX.out HBY.out (HX.out.trans hx)) (fun hH => ?_)
            clear hK K hH
            (try simp only [Act.put, List.getElem_toArray, List.getElem_cons_succ, List.getElem_cons_zero, List.setIfInBounds_toArray, List.set_cons_zero, List.set_cons_succ])
            have hlt := HP.out.b.lt
            obtain ⟨w4, hw⟩ : ∃ w4, w3.alloc (.cells z5 31) = w4 := ⟨_, rfl⟩
            rw [hw] at hx hn
            replace HX := Lib.hid (HX.out.trans hx)
            have HQ := Lib.hid hn
            replace HP := Lib.hid (HP.out.ext hx)
            replace HA := Lib.hid (HA.out.ext hx)
            replace HB := Lib.hid (HB.out.ext hx)
            rw [show w3.alloc (.cells #[.int .i64 0, .int .i64 0, .int .i64 0, .slice none 0 0, .slice none 0 0] 31) = w4 from hw]
            clear hw hx hn
            generalize w3.heap.size = gq at *
            have HNE := Lib.hid (show gp ≠ gq by omega)
            clear hlt
            have b0 := HP.out.b.cell 0; have b1 := HP.out.b.cell 1; have b2 := HP.out.b.cell 2; have b3 := HP.out.b.cell 3; have b4 := HP.out.b.cell 4
            have k0 := HP.out.b.frozen 0; have k1 := HP.out.b.frozen 1; have k2 := HP.out.b.frozen 2; have k3 := HP.out.b.frozen 3; have k4 := HP.out.b.frozen 4
            have d0 := HQ.out.b.cell 0; have d1 := HQ.out.b.cell 1; have d2 := HQ.out.b.cell 2; have d3 := HQ.out.b.cell 3; have d4 := HQ.out.b.cell 4
            have m0' := HQ.out.b.frozen 0; have m1 := HQ.out.b.frozen 1; have m2 := HQ.out.b.frozen 2; have m3 := HQ.out.b.frozen 3; have m4 := HQ.out.b.frozen 4
            simp at b0 b1 b2 b3 b4 d0 d1 d2 d3 d4
            have e1 := HNE.out; have e2 := Ne.symm HNE.out
            refine wpAnyH_ready (rs := [16]) (by kernel_rfl) (by simp) (AllReadyH.cons rfl (fun K hK => ?_) AllReadyH.nil)
            go_simp
            refine hK.out _ _ (KT2.of HBX.out HBY.out (ext_stow HX.out HP.out.lo _ _ _ _ _)) (fun hH => ?_)
            clear hK K hH
            (try simp only [Act.put, List.getElem_toArray, List.getElem_cons_succ, List.getElem_cons_zero, List.setIfInBounds_toArray, List.set_cons_zero, List.set_cons_succ])
            refine wpAnyH_ready (rs := [17]) (by kernel_rfl) (by simp) (AllReadyH.cons rfl (fun K hK => ?_) AllReadyH.nil)
            go_simp
            refine hK.out _ _ (KT2.of HBX.out HBY.out (ext_stow (ext_stow HX.out HP.out.lo _ _ _ _ _) HQ.out.lo _ _ _ _ _)) (fun hH => ?_)
            clear hK K hH b0 b1 b2 b3 b4 k0 k1 k2 k3 k4 d0 d1 d2 d3 d4 m0' m1 m2 m3 m4 e1 e2
            (try simp only [Act.put, List.getElem_toArray, List.getElem_cons_succ, List.getElem_cons_zero, List.setIfInBounds_toArray, List.set_cons_zero, List.set_cons_succ])
            refine wpAnyH_done (by kernel_rfl) ?_ _
            refine NoPanic.normal ?_
            go_wp2_with fail
            go_meet
            case rel => exact ⟨gp, gq, F1, f1, G1, g1, F2, f2, G2, g2, rfl, rfl, Lib.hid (two_put f1 g1 f2 g2 HX.out HP.out HQ.out HNE.out HA.out HB.out), Lib.hid ⟨HKA.out.2.2.1, HKA.out.2.2.2⟩⟩
        · go_simp
          have hx := Ext.alloc w2 (.cells z5 31)
          have hn := Bk.new HX.out
          refine hK.out _ _ (KT2.of HBX.out HBY.out (HX.out.trans hx)) (fun hH => ?_)
          clear hK K hH
          (try simp only [Act.put, List.getElem_toArray, List.getElem_cons_succ, List.getElem_cons_zero, List.setIfInBounds_toArray, List.set_cons_zero, List.set_cons_succ])
          obtain ⟨w3, hw⟩ : ∃ w3, w2.alloc (.cells z5 31) = w3 := ⟨_, rfl⟩
          rw [hw] at hx hn
          replace HX := Lib.hid (HX.out.trans hx)
          have HQ := Lib.hid hn
          replace HA := Lib.hid (HA.out.ext hx)
          replace HB := Lib.hid (HB.out.ext hx)
          rw [show w2.alloc (.cells #[.int .i64 0, .int .i64 0, .int .i64 0, .slice none 0 0, .slice none 0 0] 31) = w3 from hw]
          clear hw hx hn
          generalize w2.heap.size = gq at *
          refine wpAnyH_ready (rs := [14]) (by kernel_rfl) (by simp) (AllReadyH.cons rfl (fun K hK => ?_) AllReadyH.nil)
          · go_simp
            have hx := Ext.alloc w3 (.cells z5 31)
            have hn := Bk.new HX.out
            refine hK.out _ _ (KT2.of HBX.out HBY.out (HX.out.trans hx)) (fun hH => ?_)
            clear hK K hH
            (try simp only [Act.put, List.getElem_toArray, List.getElem_cons_succ, List.getElem_cons_zero, List.setIfInBounds_toArray, List.set_cons_zero, List.set_cons_succ])
            have hlt := HQ.out.b.lt
            obtain ⟨w4, hw⟩ : ∃ w4, w3.alloc (.cells z5 31) = w4 := ⟨_, rfl⟩
            rw [hw] at hx hn
            replace HX := Lib.hid (HX.out.trans hx)
            have HP := Lib.hid hn
            replace HQ := Lib.hid (HQ.out.ext hx)
            replace HA := Lib.hid (HA.out.ext hx)
            replace HB := Lib.hid (HB.out.ext hx)
            rw [show w3.alloc (.cells #[.int .i64 0, .int .i64 0, .int .i64 0, .slice none 0 0, .slice none 0 0] 31) = w4 from hw]
            clear hw hx hn
            generalize w3.heap.size = gp at *
            have HNE := Lib.hid (show gp ≠ gq by omega)
            clear hlt
            have b0 := HP.out.b.cell 0; have b1 := HP.out.b.cell 1; have b2 := HP.out.b.cell 2; have b3 := HP.out.b.cell 3; have b4 := HP.out.b.cell 4
            have k0 := HP.out.b.frozen 0; have k1 := HP.out.b.frozen 1; have k2 := HP.out.b.frozen 2; have k3 := HP.out.b.frozen 3; have k4 := HP.out.b.frozen 4
            have d0 := HQ.out.b.cell 0; have d1 := HQ.out.b.cell 1; have d2 := HQ.out.b.cell 2; have d3 := HQ.out.b.cell 3; have d4 := HQ.out.b.cell 4
            have m0' := HQ.out.b.frozen 0; have m1 := HQ.out.b.frozen 1; have m2 := HQ.out.b.frozen 2; have m3 := HQ.out.b.frozen 3; have m4 := HQ.out.b.frozen 4
            simp at b0 b1 b2 b3 b4 d0 d1 d2 d3 d4
            have e1 := HNE.out; have e2 := Ne.symm HNE.out
            refine wpAnyH_ready (rs := [16]) (by kernel_rfl) (by simp) (AllReadyH.cons rfl (fun K hK => ?_) AllReadyH.nil)
            go_simp
            refine hK.out _ _ (KT2.of HBX.out HBY.out (ext_stow HX.out HP.out.lo _ _ _ _ _)) (fun hH => ?_)
            clear hK K hH
            (try simp only [Act.put, List.getElem_toArray, List.getElem_cons_succ, List.getElem_cons_zero, List.setIfInBounds_toArray, List.set_cons_zero, List.set_cons_succ])
            refine wpAnyH_ready (rs := [17]) (by kernel_rfl) (by simp) (AllReadyH.cons rfl (fun K hK => ?_) AllReadyH.nil)
            go_simp
            refine hK.out _ _ (KT2.of HBX.out HBY.out (ext_stow (ext_stow HX.out HP.out.lo _ _ _ _ _) HQ.out.lo _ _ _ _ _)) (fun hH => ?_)
            clear hK K hH b0 b1 b2 b3 b4 k0 k1 k2 k3 k4 d0 d1 d2 d3 d4 m0' m1 m2 m3 m4 e1 e2
            (try simp only [Act.put, List.getElem_toArray, List.getElem_cons_succ, List.getElem_cons_zero, List.setIfInBounds_toArray, List.set_cons_zero, List.set_cons_succ])
            refine wpAnyH_done (by kernel_rfl) ?_ _
            refine NoPanic.normal ?_
            go_wp2_with fail
            go_meet
            case rel => exact ⟨gp, gq, F1, f1, G1, g1, F2, f2, G2, g2, rfl, rfl, Lib.hid (two_put f1 g1 f2 g2 HX.out HP.out HQ.out HNE.out HA.out HB.out), Lib.hid ⟨HKA.out.2.2.1, HKA.out.2.2.2⟩⟩
      · go_simp
        have hx := Ext.alloc w1 (.cells z5 31)
        have hn := Bk.new HX.out
        refine hK.out _ _ (KT2.of HBX.out HBY.out (HX.out.trans hx)) (fun hH => ?_)
        clear hK K hH
        (try simp only [Act.put, List.getElem_toArray, List.getElem_cons_succ, List.getElem_cons_zero, List.setIfInBounds_toArray, List.set_cons_zero, List.set_cons_succ])
        obtain ⟨w2, hw⟩ : ∃ w2, w1.alloc (.cells z5 31) = w2 := ⟨_, rfl⟩
        rw [hw] at hx hn
        replace HX := Lib.hid (HX.out.trans hx)
        have HP := Lib.hid hn
        replace HA := Lib.hid (HA.out.ext hx)
        rw [show w1.alloc (.cells #[.int .i64 0, .int .i64 0, .int .i64 0, .slice none 0 0, .slice none 0 0] 31) = w2 from hw]
        clear hw hx hn
        generalize w1.heap.size = gp at *
        refine wpAnyH_ready (rs := [13, 15]) (by kernel_rfl) (by simp) (AllReadyH.cons rfl (fun K hK => ?_) (AllReadyH.cons rfl (fun K hK => ?_) AllReadyH.nil))
        · go_simp
          go_at_call 10; refine (HB0.out _ HX.out).mono ?_
          rintro e w3 ⟨F2, f2, G2, g2, rfl, hla, hlb, hk, hx⟩
          replace HX := Lib.hid (HX.out.trans hx)
          have HB := Lib.hid (Lo.mk hla.lies hlb.lies)
          have HKB := Lib.hid hk
          replace HP := Lib.hid (HP.out.ext hx)
          replace HA := Lib.hid (HA.out.ext hx)
          clear hla hlb hk hx
          go_wp2_with fail
          refine hK.out _ _ (KT2.of HBX.out HBY.out HX.out) (fun hH => ?_)
          clear hK K hH
          (try simp only [Act.put, List.getElem_toArray, List.getElem_cons_succ, List.getElem_cons_zero, List.setIfInBounds_toArray, List.set_cons_zero, List.set_cons_succ])
          refine wpAnyH_ready (rs := [15]) (by kernel_rfl) (by simp) (AllReadyH.cons rfl (fun K hK => ?_) AllReadyH.nil)
          · go_simp
            have hx := Ext.alloc w3 (.cells z5 31)
            have hn := Bk.new HX.out
            refine hK.out _ _ (KT2.of HBX.out HBY.out (HX.out.trans hx)) (fun hH => ?_)
            clear hK K hH
            (try simp only [Act.put, List.getElem_toArray, List.getElem_cons_succ, List.getElem_cons_zero, List.setIfInBounds_toArray, List.set_cons_zero, List.set_cons_succ])
            have hlt := HP.out.b.lt
            obtain ⟨w4, hw⟩ : ∃ w4, w3.alloc (.cells z5 31) = w4 := ⟨_, rfl⟩
            rw [hw] at hx hn
            replace HX := Lib.hid (HX.out.trans hx)
            have HQ := Lib.hid hn
            replace HP := Lib.hid (HP.out.ext hx)
            replace HA := Lib.hid (HA.out.ext hx)
            replace HB := Lib.hid (HB.out.ext hx)
            rw [show w3.alloc (.cells #[.int .i64 0, .int .i64 0, .int .i64 0, .slice none 0 0, .slice none 0 0] 31) = w4 from hw]
            clear hw hx hn
            generalize w3.heap.size = gq at *
            have HNE := Lib.hid (show gp ≠ gq by omega)
            clear hlt
            have b0 := HP.out.b.cell 0; have b1 := HP.out.b.cell 1; have b2 := HP.out.b.cell 2; have b3 := HP.out.b.cell 3; have b4 := HP.out.b.cell 4
            have k0 := HP.out.b.frozen 0; have k1 := HP.out.b.frozen 1; have k2 := HP.out.b.frozen 2; have k3 := HP.out.b.frozen 3; have k4 := HP.out.b.frozen 4
            have d0 := HQ.out.b.cell 0; have d1 := HQ.out.b.cell 1; have d2 := HQ.out.b.cell 2; have d3 := HQ.out.b.cell 3; have d4 := HQ.out.b.cell 4
            have m0' := HQ.out.b.frozen 0; have m1 := HQ.out.b.frozen 1; have m2 := HQ.out.b.frozen 2; have m3 := HQ.out.b.frozen 3; have m4 := HQ.out.b.frozen 4
            simp at b0 b1 b2 b3 b4 d0 d1 d2 d3 d4
            have e1 := HNE.out; have e2 := Ne.symm HNE.out
            refine wpAnyH_ready (rs := [16]) (by kernel_rfl) (by simp) (AllReadyH.cons rfl (fun K hK => ?_) AllReadyH.nil)
            go_simp
            refine hK.out _ _ (KT2.of HBX.out HBY.out (ext_stow HX.out HP.out.lo _ _ _ _ _)) (fun hH => ?_)
            clear hK K hH
            (try simp only [Act.put, List.getElem_toArray, List.getElem_cons_succ, List.getElem_cons_zero, List.setIfInBounds_toArray, List.set_cons_zero, List.set_cons_succ])
            refine wpAnyH_ready (rs := [17]) (by kernel_rfl) (by simp) (AllReadyH.cons rfl (fun K hK => ?_) AllReadyH.nil)
            go_simp
            refine hK.out _ _ (KT2.of HBX.out HBY.out (ext_stow (ext_stow HX.out HP.out.lo _ _ _ _ _) HQ.out.lo _ _ _ _ _)) (fun hH => ?_)
            clear hK K hH b0 b1 b2 b3 b4 k0 k1 k2 k3 k4 d0 d1 d2 d3 d4 m0' m1 m2 m3 m4 e1 e2
            (try simp only [Act.put, List.getElem_toArray, List.getElem_cons_succ, List.getElem_cons_zero, List.setIfInBounds_toArray, List.set_cons_zero, List.set_cons_succ])
            refine wpAnyH_done (by kernel_rfl) ?_ _
            refine NoPanic.normal ?_
            go_wp2_with fail
            go_meet
            case rel => exact ⟨gp, gq, F1, f1, G1, g1, F2, f2, G2, g2, rfl, rfl, Lib.hid (two_put f1 g1 f2 g2 HX.out HP.out HQ.out HNE.out HA.out HB.out), Lib.hid ⟨HKA.out.2.2.1, HKA.out.2.2.2⟩⟩
        · go_simp
          have hx := Ext.alloc w2 (.cells z5 31)
          have hn := Bk.new HX.out
          refine hK.out _ _ (KT2.of HBX.out HBY.out (HX.out.trans hx)) (fun hH => ?_)
          clear hK K hH
          (try simp only [Act.put, List.getElem_toArray, List.getElem_cons_succ, List.getElem_cons_zero, List.setIfInBounds_toArray, List.set_cons_zero, List.set_cons_succ])
          have hlt := HP.out.b.lt
          obtain ⟨w3, hw⟩ : ∃ w3, w2.alloc (.cells z5 31) = w3 := ⟨_, rfl⟩
          rw [hw] at hx hn
          replace HX := Lib.hid (HX.out.trans hx)
          have HQ := Lib.hid hn
          replace HP := Lib.hid (HP.out.ext hx)
          replace HA := Lib.hid (HA.out.ext hx)
          rw [show w2.alloc (.cells #[.int .i64 0, .int .i64 0, .int .i64 0, .slice none 0 0, .slice none 0 0] 31) = w3 from hw]
          clear hw hx hn
          generalize w2.heap.size = gq at *
          have HNE := Lib.hid (show gp ≠ gq by omega)
          clear hlt
          refine wpAnyH_ready (rs := [13]) (by kernel_rfl) (by simp) (AllReadyH.cons rfl (fun K hK => ?_) AllReadyH.nil)
          · go_simp
            go_at_call 10; refine (HB0.out _ HX.out).mono ?_
            rintro e w4 ⟨F2, f2, G2, g2, rfl, hla, hlb, hk, hx⟩
            replace HX := Lib.hid (HX.out.trans hx)
            have HB := Lib.hid (Lo.mk hla.lies hlb.lies)
            have HKB := Lib.hid hk
            replace HP := Lib.hid (HP.out.ext hx)
            replace HQ := Lib.hid (HQ.out.ext hx)
            replace HA := Lib.hid (HA.out.ext hx)
            clear hla hlb hk hx
            go_wp2_with fail
            refine hK.out _ _ (KT2.of HBX.out HBY.out HX.out) (fun hH => ?_)
            clear hK K hH
            (try simp only [Act.put, List.getElem_toArray, List.getElem_cons_succ, List.getElem_cons_zero, List.setIfInBounds_toArray, List.set_cons_zero, List.set_cons_succ])
            have b0 := HP.out.b.cell 0; have b1 := HP.out.b.cell 1; have b2 := HP.out.b.cell 2; have b3 := HP.out.b.cell 3; have b4 := HP.out.b.cell 4
            have k0 := HP.out.b.frozen 0; have k1 := HP.out.b.frozen 1; have k2 := HP.out.b.frozen 2; have k3 := HP.out.b.frozen 3; have k4 := HP.out.b.frozen 4
            have d0 := HQ.out.b.cell 0; have d1 := HQ.out.b.cell 1; have d2 := HQ.out.b.cell 2; have d3 := HQ.out.b.cell 3; have d4 := HQ.out.b.cell 4
            have m0' := HQ.out.b.frozen 0; have m1 := HQ.out.b.frozen 1; have m2 := HQ.out.b.frozen 2; have m3 := HQ.out.b.frozen 3; have m4 := HQ.out.b.frozen 4
            simp at b0 b1 b2 b3 b4 d0 d1 d2 d3 d4
            have e1 := HNE.out; have e2 := Ne.symm HNE.out
            refine wpAnyH_ready (rs := [16]) (by kernel_rfl) (by simp) (AllReadyH.cons rfl (fun K hK => ?_) AllReadyH.nil)
            go_simp
            refine hK.out _ _ (KT2.of HBX.out HBY.out (ext_stow HX.out HP.out.lo _ _ _ _ _)) (fun hH => ?_)
            clear hK K hH
            (try simp only [Act.put, List.getElem_toArray, List.getElem_cons_succ, List.getElem_cons_zero, List.setIfInBounds_toArray, List.set_cons_zero, List.set_cons_succ])
            refine wpAnyH_ready (rs := [17]) (by kernel_rfl) (by simp) (AllReadyH.cons rfl (fun K hK => ?_) AllReadyH.nil)
            go_simp
            refine hK.out _ _ (KT2.of HBX.out HBY.out (ext_stow (ext_stow HX.out HP.out.lo _ _ _ _ _) HQ.out.lo _ _ _ _ _)) (fun hH => ?_)
            clear hK K hH b0 b1 b2 b3 b4 k0 k1 k2 k3 k4 d0 d1 d2 d3 d4 m0' m1 m2 m3 m4 e1 e2
            (try simp only [Act.put, List.getElem_toArray, List.getElem_cons_succ, List.getElem_cons_zero, List.setIfInBounds_toArray, List.set_cons_zero, List.set_cons_succ])
            refine wpAnyH_done (by kernel_rfl) ?_ _
            refine NoPanic.normal ?_
            go_wp2_with fail
            go_meet
            case rel => exact ⟨gp, gq, F1, f1, G1, g1, F2, f2, G2, g2, rfl, rfl, Lib.hid (two_put f1 g1 f2 g2 HX.out HP.out HQ.out HNE.out HA.out HB.out), Lib.hid ⟨HKA.out.2.2.1, HKA.out.2.2.2⟩⟩
      · go_simp
        have hx := Ext.alloc w1 (.cells z5 31)
        have hn := Bk.new HX.out
        refine hK.out _ _ (KT2.of HBX.out HBY.out (HX.out.trans hx)) (fun hH => ?_)
        clear hK K hH
        (try simp only [Act.put, List.getElem_toArray, List.getElem_cons_succ, List.getElem_cons_zero, List.setIfInBounds_toArray, List.set_cons_zero, List.set_cons_succ])
        obtain ⟨w2, hw⟩ : ∃ w2, w1.alloc (.cells z5 31) = w2 := ⟨_, rfl⟩
        rw [hw] at hx hn
        replace HX := Lib.hid (HX.out.trans hx)
        have HQ := Lib.hid hn
        replace HA := Lib.hid (HA.out.ext hx)
        rw [show w1.alloc (.cells #[.int .i64 0, .int .i64 0, .int .i64 0, .slice none 0 0, .slice none 0 0] 31) = w2 from hw]
        clear hw hx hn
        generalize w1.heap.size = gq at *
        refine wpAnyH_ready (rs := [13, 14]) (by kernel_rfl) (by simp) (AllReadyH.cons rfl (fun K hK => ?_) (AllReadyH.cons rfl (fun K hK => ?_) AllReadyH.nil))
        · go_simp
          go_at_call 10; refine (HB0.out _ HX.out).mono ?_
          rintro e w3 ⟨F2, f2, G2, g2, rfl, hla, hlb, hk, hx⟩
          replace HX := Lib.hid (HX.out.trans hx)
          have HB := Lib.hid (Lo.mk hla.lies hlb.lies)
          have HKB := Lib.hid hk
          replace HQ := Lib.hid (HQ.out.ext hx)
          replace HA := Lib.hid (HA.out.ext hx)
          clear hla hlb hk hx
          go_wp2_with fail
          refine hK.out _ _ (KT2.of HBX.out HBY.out HX.out) (fun hH => ?_)
          clear hK K hH
          (try simp only [Act.put, List.getElem_toArray, List.getElem_cons_succ, List.getElem_cons_zero, List.setIfInBounds_toArray, List.set_cons_zero, List.set_cons_succ])
          refine wpAnyH_ready (rs := [14]) (by kernel_rfl) (by simp) (AllReadyH.cons rfl (fun K hK => ?_) AllReadyH.nil)
          · go_simp
            have hx := Ext.alloc w3 (.cells z5 31)
            have hn := Bk.new HX.out
            refine hK.out _ _ (KT2.of HBX.out HBY.out (HX.out.trans hx)) (fun hH => ?_)
            clear hK K hH
            (try simp only [Act.put, List.getElem_toArray, List.getElem_cons_succ, List.getElem_cons_zero, List.setIfInBounds_toArray, List.set_cons_zero, List.set_cons_succ])
            have hlt := HQ.out.b.lt
            obtain ⟨w4, hw⟩ : ∃ w4, w3.alloc (.cells z5 31) = w4 := ⟨_, rfl⟩
            rw [hw] at hx hn
            replace HX := Lib.hid (HX.out.trans hx)
            have HP := Lib.hid hn
            replace HQ := Lib.hid (HQ.out.ext hx)
            replace HA := Lib.hid (HA.out.ext hx)
            replace HB := Lib.hid (HB.out.ext hx)
            rw [show w3.alloc (.cells #[.int .i64 0, .int .i64 0, .int .i64 0, .slice none 0 0, .slice none 0 0] 31) = w4 from hw]
            clear hw hx hn
            generalize w3.heap.size = gp at *
            have HNE := Lib.hid (show gp ≠ gq by omega)
            clear hlt
            have b0 := HP.out.b.cell 0; have b1 := HP.out.b.cell 1; have b2 := HP.out.b.cell 2; have b3 := HP.out.b.cell 3; have b4 := HP.out.b.cell 4
            have k0 := HP.out.b.frozen 0; have k1 := HP.out.b.frozen 1; have k2 := HP.out.b.frozen 2; have k3 := HP.out.b.frozen 3; have k4 := HP.out.b.frozen 4
            have d0 := HQ.out.b.cell 0; have d1 := HQ.out.b.cell 1; have d2 := HQ.out.b.cell 2; have d3 := HQ.out.b.cell 3; have d4 := HQ.out.b.cell 4
            have m0' := HQ.out.b.frozen 0; have m1 := HQ.out.b.frozen 1; have m2 := HQ.out.b.frozen 2; have m3 := HQ.out.b.frozen 3; have m4 := HQ.out.b.frozen 4
            simp at b0 b1 b2 b3 b4 d0 d1 d2 d3 d4
            have e1 := HNE.out; have e2 := Ne.symm HNE.out
            refine wpAnyH_ready (rs := [16]) (by kernel_rfl) (by simp) (AllReadyH.cons rfl (fun K hK => ?_) AllReadyH.nil)
            go_simp
            refine hK.out _ _ (KT2.of HBX.out HBY.out (ext_stow HX.out HP.out.lo _ _ _ _ _)) (fun hH => ?_)
            clear hK K hH
            (try simp only [Act.put, List.getElem_toArray, List.getElem_cons_succ, List.getElem_cons_zero, List.setIfInBounds_toArray, List.set_cons_zero, List.set_cons_succ])
            refine wpAnyH_ready (rs := [17]) (by kernel_rfl) (by simp) (AllReadyH.cons rfl (fun K hK => ?_) AllReadyH.nil)
            go_simp
            refine hK.out _ _ (KT2.of HBX.out HBY.out (ext_stow (ext_stow HX.out HP.out.lo _ _ _ _ _) HQ.out.lo _ _ _ _ _)) (fun hH => ?_)
            clear hK K hH b0 b1 b2 b3 b4 k0 k1 k2 k3 k4 d0 d1 d2 d3 d4 m0' m1 m2 m3 m4 e1 e2
            (try simp only [Act.put, List.getElem_toArray, List.getElem_cons_succ, List.getElem_cons_zero, List.setIfInBounds_toArray, List.set_cons_zero, List.set_cons_succ])
            refine wpAnyH_done (by kernel_rfl) ?_ _
            refine NoPanic.normal ?_
            go_wp2_with fail
            go_meet
            case rel => exact ⟨gp, gq, F1, f1, G1, g1, F2, f2, G2, g2, rfl, rfl, Lib.hid (two_put f1 g1 f2 g2 HX.out HP.out HQ.out HNE.out HA.out HB.out), Lib.hid ⟨HKA.out.2.2.1, HKA.out.2.2.2⟩⟩
        · go_simp
          have hx := Ext.alloc w2 (.cells z5 31)
          have hn := Bk.new HX.out
          refine hK.out _ _ (KT2.of HBX.out HBY.out (HX.out.trans hx)) (fun hH => ?_)
          clear hK K hH
          (try simp only [Act.put, List.getElem_toArray, List.getElem_cons_succ, List.getElem_cons_zero, List.setIfInBounds_toArray, List.set_cons_zero, List.set_cons_succ])
          have hlt := HQ.out.b.lt
          obtain ⟨w3, hw⟩ : ∃ w3, w2.alloc (.cells z5 31) = w3 := ⟨_, rfl⟩
          rw [hw] at hx hn
          replace HX := Lib.hid (HX.out.trans hx)
          have HP := Lib.hid hn
          replace HQ := Lib.hid (HQ.out.ext hx)
          replace HA := Lib.hid (HA.out.ext hx)
          rw [show w2.alloc (.cells #[.int .i64 0, .int .i64 0, .int .i64 0, .slice none 0 0, .slice none 0 0] 31) = w3 from hw]
          clear hw hx hn
          generalize w2.heap.size = gp at *
          have HNE := Lib.hid (show gp ≠ gq by omega)
          clear hlt
          refine wpAnyH_ready (rs := [13]) (by kernel_rfl) (by simp) (AllReadyH.cons rfl (fun K hK => ?_) AllReadyH.nil)
          · go_simp
            go_at_call 10; refine (HB0.out _ HX.out).mono ?_
            rintro e w4 ⟨F2, f2, G2, g2, rfl, hla, hlb, hk, hx⟩
            replace HX := Lib.hid (HX.out.trans hx)
            have HB := Lib.hid (Lo.mk hla.lies hlb.lies)
            have HKB := Lib.hid hk
            replace HP := Lib.hid (HP.out.ext hx)
            replace HQ := Lib.hid (HQ.out.ext hx)
            replace HA := Lib.hid (HA.out.ext hx)
            clear hla hlb hk hx
            go_wp2_with fail
            refine hK.out _ _ (KT2.of HBX.out HBY.out HX.out) (fun hH => ?_)
            clear hK K hH
            (try simp only [Act.put, List.getElem_toArray, List.getElem_cons_succ, List.getElem_cons_zero, List.setIfInBounds_toArray, List.set_cons_zero, List.set_cons_succ])
            have b0 := HP.out.b.cell 0; have b1 := HP.out.b.cell 1; have b2 := HP.out.b.cell 2; have b3 := HP.out.b.cell 3; have b4 := HP.out.b.cell 4
            have k0 := HP.out.b.frozen 0; have k1 := HP.out.b.frozen 1; have k2 := HP.out.b.frozen 2; have k3 := HP.out.b.frozen 3; have k4 := HP.out.b.frozen 4
            have d0 := HQ.out.b.cell 0; have d1 := HQ.out.b.cell 1; have d2 := HQ.out.b.cell 2; have d3 := HQ.out.b.cell 3; have d4 := HQ.out.b.cell 4
            have m0' := HQ.out.b.frozen 0; have m1 := HQ.out.b.frozen 1; have m2 := HQ.out.b.frozen 2; have m3 := HQ.out.b.frozen 3; have m4 := HQ.out.b.frozen 4
            simp at b0 b1 b2 b3 b4 d0 d1 d2 d3 d4
            have e1 := HNE.out; have e2 := Ne.symm HNE.out
            refine wpAnyH_ready (rs := [16]) (by kernel_rfl) (by simp) (AllReadyH.cons rfl (fun K hK => ?_) AllReadyH.nil)
            go_simp
            refine hK.out _ _ (KT2.of HBX.out HBY.out (ext_stow HX.out HP.out.lo _ _ _ _ _)) (fun hH => ?_)
            clear hK K hH
            (try simp only [Act.put, List.getElem_toArray, List.getElem_cons_succ, List.getElem_cons_zero, List.setIfInBounds_toArray, List.set_cons_zero, List.set_cons_succ])
            refine wpAnyH_ready (rs := [17]) (by kernel_rfl) (by simp) (AllReadyH.cons rfl (fun K hK => ?_) AllReadyH.nil)
            go_simp
            refine hK.out _ _ (KT2.of HBX.out HBY.out (ext_stow (ext_stow HX.out HP.out.lo _ _ _ _ _) HQ.out.lo _ _ _ _ _)) (fun hH => ?_)
            clear hK K hH b0 b1 b2 b3 b4 k0 k1 k2 k3 k4 d0 d1 d2 d3 d4 m0' m1 m2 m3 m4 e1 e2
            (try simp only [Act.put, List.getElem_toArray, List.getElem_cons_succ, List.getElem_cons_zero, List.setIfInBounds_toArray, List.set_cons_zero, List.set_cons_succ])
            refine wpAnyH_done (by kernel_rfl) ?_ _
            refine NoPanic.normal ?_
            go_wp2_with fail
            go_meet
            case rel => exact ⟨gp, gq, F1, f1, G1, g1, F2, f2, G2, g2, rfl, rfl, Lib.hid (two_put f1 g1 f2 g2 HX.out HP.out HQ.out HNE.out HA.out HB.out), Lib.hid ⟨HKA.out.2.2.1, HKA.out.2.2.2⟩⟩
    · go_simp
      have hx := Ext.alloc w0 (.cells z5 31)
      have hn := Bk.new HX.out
      refine hK.out _ _ (KT2.of HBX.out HBY.out (HX.out.trans hx)) (fun hH => ?_)
      clear hK K hH
      (try simp only [Act.put, List.getElem_toArray, List.getElem_cons_succ, List.getElem_cons_zero, List.setIfInBounds_toArray, List.set_cons_zero, List.set_cons_succ])
      obtain ⟨w1, hw⟩ : ∃ w1, w0.alloc (.cells z5 31) = w1 := ⟨_, rfl⟩
      rw [hw] at hx hn
      replace HX := Lib.hid (HX.out.trans hx)
      have HP := Lib.hid hn
      rw [show w0.alloc (.cells #[.int .i64 0, .int .i64 0, .int .i64 0, .slice none 0 0, .slice none 0 0] 31) = w1 from hw]
      clear hw hx hn
      generalize w0.heap.size = gp at *
      refine wpAnyH_ready (rs := [6, 15]) (by kernel_rfl) (by simp) (AllReadyH.cons rfl (fun K hK => ?_) (AllReadyH.cons rfl (fun K hK => ?_) AllReadyH.nil))
      · go_simp
        go_at_call 10; refine (HA0.out _ HX.out).mono ?_
        rintro e w2 ⟨F1, f1, G1, g1, rfl, hla, hlb, hk, hx⟩
        replace HX := Lib.hid (HX.out.trans hx)
        have HA := Lib.hid (Lo.mk hla.lies hlb.lies)
        have HKA := Lib.hid hk
        replace HP := Lib.hid (HP.out.ext hx)
        clear hla hlb hk hx
        go_wp2_with fail
        refine hK.out _ _ (KT2.of HBX.out HBY.out HX.out) (fun hH => ?_)
        clear hK K hH
        (try simp only [Act.put, List.getElem_toArray, List.getElem_cons_succ, List.getElem_cons_zero, List.setIfInBounds_toArray, List.set_cons_zero, List.set_cons_succ])
        refine wpAnyH_ready (rs := [13, 15]) (by kernel_rfl) (by simp) (AllReadyH.cons rfl (fun K hK => ?_) (AllReadyH.cons rfl (fun K hK => ?_) AllReadyH.nil))
        · go_simp
          go_at_call 10; refine (HB0.out _ HX.out).mono ?_
          rintro e w3 ⟨F2, f2, G2, g2, rfl, hla, hlb, hk, hx⟩
          replace HX := Lib.hid (HX.out.trans hx)
          have HB := Lib.hid (Lo.mk hla.lies hlb.lies)
          have HKB := Lib.hid hk
          replace HP := Lib.hid (HP.out.ext hx)
          replace HA := Lib.hid (HA.out.ext hx)
          clear hla hlb hk hx
          go_wp2_with fail
          refine hK.out _ _ (KT2.of HBX.out HBY.out HX.out) (fun hH => ?_)
          clear hK K hH
          (try simp only [Act.put, List.getElem_toArray, List.getElem_cons_succ, List.getElem_cons_zero, List.setIfInBounds_toArray, List.set_cons_zero, List.set_cons_succ])
          refine wpAnyH_ready (rs := [15]) (by kernel_rfl) (by simp) (AllReadyH.cons rfl (fun K hK => ?_) AllReadyH.nil)
          · go_simp
            have hx := Ext.alloc w3 (.cells z5 31)
            have hn := Bk.new HX.out
            refine hK.out _ _ (KT2.of HBX.out HBY.out (HX.out.trans hx)) (fun hH => ?_)
            clear hK K hH
            (try simp only [Act.put, List.getElem_toArray, List.getElem_cons_succ, List.getElem_cons_zero, List.setIfInBounds_toArray, List.set_cons_zero, List.set_cons_succ])
            have hlt := HP.out.b.lt
            obtain ⟨w4, hw⟩ : ∃ w4, w3.alloc (.cells z5 31) = w4 := ⟨_, rfl⟩
            rw [hw] at hx hn
            replace HX := Lib.hid (HX.out.trans hx)
            have HQ := Lib.hid hn
            replace HP := Lib.hid (HP.out.ext hx)
            replace HA := Lib.hid (HA.out.ext hx)
            replace HB := Lib.hid (HB.out.ext hx)
            rw [show w3.alloc (.cells #[.int .i64 0, .int .i64 0, .int .i64 0, .slice none 0 0, .slice none 0 0] 31) = w4 from hw]
            clear hw hx hn
            generalize w3.heap.size = gq at *
            have HNE := Lib.hid (show gp ≠ gq by omega)
            clear hlt
            have b0 := HP.out.b.cell 0; have b1 := HP.out.b.cell 1; have b2 := HP.out.b.cell 2; have b3 := HP.out.b.cell 3; have b4 := HP.out.b.cell 4
            have k0 := HP.out.b.frozen 0; have k1 := HP.out.b.frozen 1; have k2 := HP.out.b.frozen 2; have k3 := HP.out.b.frozen 3; have k4 := HP.out.b.frozen 4
            have d0 := HQ.out.b.cell 0; have d1 := HQ.out.b.cell 1; have d2 := HQ.out.b.cell 2; have d3 := HQ.out.b.cell 3; have d4 := HQ.out.b.cell 4
            have m0' := HQ.out.b.frozen 0; have m1 := HQ.out.b.frozen 1; have m2 := HQ.out.b.frozen 2; have m3 := HQ.out.b.frozen 3; have m4 := HQ.out.b.frozen 4
            simp at b0 b1 b2 b3 b4 d0 d1 d2 d3 d4
            have e1 := HNE.out; have e2 := Ne.symm HNE.out
            refine wpAnyH_ready (rs := [16]) (by kernel_rfl) (by simp) (AllReadyH.cons rfl (fun K hK => ?_) AllReadyH.nil)
            go_simp
            refine hK.out _ _ (KT2.of HBX.out HBY.out (ext_stow HX.out HP.out.lo _ _ _ _ _)) (fun hH => ?_)
            clear hK K hH
            (try simp only [Act.put, List.getElem_toArray, List.getElem_cons_succ, List.getElem_cons_zero, List.setIfInBounds_toArray, List.set_cons_zero, List.set_cons_succ])
            refine wpAnyH_ready (rs := [17]) (by kernel_rfl) (by simp) (AllReadyH.cons rfl (fun K hK => ?_) AllReadyH.nil)
            go_simp
            refine hK.out _ _ (KT2.of HBX.out HBY.out (ext_stow (ext_stow HX.out HP.out.lo _ _ _ _ _) HQ.out.lo _ _ _ _ _)) (fun hH => ?_)
            clear hK K hH b0 b1 b2 b3 b4 k0 k1 k2 k3 k4 d0 d1 d2 d3 d4 m0' m1 m2 m3 m4 e1 e2
            (try simp only [Act.put, List.getElem_toArray, List.getElem_cons_succ, List.getElem_cons_zero, List.setIfInBounds_toArray, List.set_cons_zero, List.set_cons_succ])
            refine wpAnyH_done (by kernel_rfl) ?_ _
            refine NoPanic.normal ?_
            go_wp2_with fail
            go_meet
            case rel => exact ⟨gp, gq, F1, f1, G1, g1, F2, f2, G2, g2, rfl, rfl, Lib.hid (two_put f1 g1 f2 g2 HX.out HP.out HQ.out HNE.out HA.out HB.out), Lib.hid ⟨HKA.out.2.2.1, HKA.out.2.2.2⟩⟩
        · go_simp
          have hx := Ext.alloc w2 (.cells z5 31)
          have hn := Bk.new HX.out
          refine hK.out _ _ (KT2.of HBX.out HBY.out (HX.out.trans hx)) (fun hH => ?_)
          clear hK K hH
          (try simp only [Act.put, List.getElem_toArray, List.getElem_cons_succ, List.getElem_cons_zero, List.setIfInBounds_toArray, List.set_cons_zero, List.set_cons_succ])
          have hlt := HP.out.b.lt
          obtain ⟨w3, hw⟩ : ∃ w3, w2.alloc (.cells z5 31) = w3 := ⟨_, rfl⟩
          rw [hw] at hx hn
          replace HX := Lib.hid (HX.out.trans hx)
          have HQ := Lib.hid hn
          replace HP := Lib.hid (HP.out.ext hx)
          replace HA := Lib.hid (HA.out.ext hx)
          rw [show w2.alloc (.cells #[.int .i64 0, .int .i64 0, .int .i64 0, .slice none 0 0, .slice none 0 0] 31) = w3 from hw]
          clear hw hx hn
          generalize w2.heap.size = gq at *
          have HNE := Lib.hid (show gp ≠ gq by omega)
          clear hlt
          refine wpAnyH_ready (rs := [13]) (by kernel_rfl) (by simp) (AllReadyH.cons rfl (fun K hK => ?_) AllReadyH.nil)
          · go_simp
            go_at_call 10; refine (HB0.out _ HX.out).mono ?_
            rintro e w4 ⟨F2, f2, G2, g2, rfl, hla, hlb, hk, hx⟩
            replace HX := Lib.hid (HX.out.trans hx)
            have HB := Lib.hid (Lo.mk hla.lies hlb.lies)
            have HKB := Lib.hid hk
            replace HP := Lib.hid (HP.out.ext hx)
            replace HQ := Lib.hid (HQ.out.ext hx)
            replace HA := Lib.hid (HA.out.ext hx)
            clear hla hlb hk hx
            go_wp2_with fail
            refine hK.out _ _ (KT2.of HBX.out HBY.out HX.out) (fun hH => ?_)
            clear hK K hH
            (try simp only [Act.put, List.getElem_toArray, List.getElem_cons_succ, List.getElem_cons_zero, List.setIfInBounds_toArray, List.set_cons_zero, List.set_cons_succ])
            have b0 := HP.out.b.cell 0; have b1 := HP.out.b.cell 1; have b2 := HP.out.b.cell 2; have b3 := HP.out.b.cell 3; have b4 := HP.out.b.cell 4
            have k0 := HP.out.b.frozen 0; have k1 := HP.out.b.frozen 1; have k2 := HP.out.b.frozen 2; have k3 := HP.out.b.frozen 3; have k4 := HP.out.b.frozen 4
            have d0 := HQ.out.b.cell 0; have d1 := HQ.out.b.cell 1; have d2 := HQ.out.b.cell 2; have d3 := HQ.out.b.cell 3; have d4 := HQ.out.b.cell 4
            have m0' := HQ.out.b.frozen 0; have m1 := HQ.out.b.frozen 1; have m2 := HQ.out.b.frozen 2; have m3 := HQ.out.b.frozen 3; have m4 := HQ.out.b.frozen 4
            simp at b0 b1 b2 b3 b4 d0 d1 d2 d3 d4
            have e1 := HNE.out; have e2 := Ne.symm HNE.out
            refine wpAnyH_ready (rs := [16]) (by kernel_rfl) (by simp) (AllReadyH.cons rfl (fun K hK => ?_) AllReadyH.nil)
            go_simp
            refine hK.out _ _ (KT2.of HBX.out HBY.out (ext_stow HX.out HP.out.lo _ _ _ _ _)) (fun hH => ?_)
            clear hK K hH
            (try simp only [Act.put, List.getElem_toArray, List.getElem_cons_succ, List.getElem_cons_zero, List.setIfInBounds_toArray, List.set_cons_zero, List.set_cons_succ])
            refine wpAnyH_ready (rs := [17]) (by kernel_rfl) (by simp) (AllReadyH.cons rfl (fun K hK => ?_) AllReadyH.nil)
            go_simp
            refine hK.out _ _ (KT2.of HBX.out HBY.out (ext_stow (ext_stow HX.out HP.out.lo _ _ _ _ _) HQ.out.lo _ _ _ _ _)) (fun hH => ?_)
            clear hK K hH b0 b1 b2 b3 b4 k0 k1 k2 k3 k4 d0 d1 d2 d3 d4 m0' m1 m2 m3 m4 e1 e2
            (try simp only [Act.put, List.getElem_toArray, List.getElem_cons_succ, List.getElem_cons_zero, List.setIfInBounds_toArray, List.set_cons_zero, List.set_cons_succ])
            refine wpAnyH_done (by kernel_rfl) ?_ _
            refine NoPanic.normal ?_
            go_wp2_with fail
            go_meet
            case rel => exact ⟨gp, gq, F1, f1, G1, g1, F2, f2, G2, g2, rfl, rfl, Lib.hid (two_put f1 g1 f2 g2 HX.out HP.out HQ.out HNE.out HA.out HB.out), Lib.hid ⟨HKA.out.2.2.1, HKA.out.2.2.2⟩⟩
      · go_simp
        have hx := Ext.alloc w1 (.cells z5 31)
        have hn := Bk.new HX.out
        refine hK.out _ _ (KT2.of HBX.out HBY.out (HX.out.trans hx)) (fun hH => ?_)
        clear hK K hH
        (try simp only [Act.put, List.getElem_toArray, List.getElem_cons_succ, List.getElem_cons_zero, List.setIfInBounds_toArray, List.set_cons_zero, List.set_cons_succ])
        have hlt := HP.out.b.lt
        obtain ⟨w2, hw⟩ : ∃ w2, w1.alloc (.cells z5 31) = w2 := ⟨_, rfl⟩
        rw [hw] at hx hn
        replace HX := Lib.hid (HX.out.trans hx)
        have HQ := Lib.hid hn
        replace HP := Lib.hid (HP.out.ext hx)
        rw [show w1.alloc (.cells #[.int .i64 0, .int .i64 0, .int .i64 0, .slice none 0 0, .slice none 0 0] 31) = w2 from hw]
        clear hw hx hn
        generalize w1.heap.size = gq at *
        have HNE := Lib.hid (show gp ≠ gq by omega)
        clear hlt
        refine wpAnyH_ready (rs := [6]) (by kernel_rfl) (by simp) (AllReadyH.cons rfl (fun K hK => ?_) AllReadyH.nil)
        · go_simp
          go_at_call 10; refine (HA0.out _ HX.out).mono ?_
          rintro e w3 ⟨F1, f1, G1, g1, rfl, hla, hlb, hk, hx⟩
          replace HX := Lib.hid (HX.out.trans hx)
          have HA := Lib.hid (Lo.mk hla.lies hlb.lies)
          have HKA := Lib.hid hk
          replace HP := Lib.hid (HP.out.ext hx)
          replace HQ := Lib.hid (HQ.out.ext hx)
          clear hla hlb hk hx
          go_wp2_with fail
          refine hK.out _ _ (KT2.of HBX.out HBY.out HX.out) (fun hH => ?_)
          clear hK K hH
          (try simp only [Act.put, List.getElem_toArray, List.getElem_cons_succ, List.getElem_cons_zero, List.setIfInBounds_toArray, List.set_cons_zero, List.set_cons_succ])
          refine wpAnyH_ready (rs := [13]) (by kernel_rfl) (by simp) (AllReadyH.cons rfl (fun K hK => ?_) AllReadyH.nil)
          · go_simp
            go_at_call 10; refine (HB0.out _ HX.out).mono ?_
            rintro e w4 ⟨F2, f2, G2, g2, rfl, hla, hlb, hk, hx⟩
            replace HX := Lib.hid (HX.out.trans hx)
            have HB := Lib.hid (Lo.mk hla.lies hlb.lies)
            have HKB := Lib.hid hk
            replace HP := Lib.hid (HP.out.ext hx)
            replace HQ := Lib.hid (HQ.out.ext hx)
            replace HA := Lib.hid (HA.out.ext hx)
            clear hla hlb hk hx
            go_wp2_with fail
            refine hK.out _ _ (KT2.of HBX.out HBY.out HX.out) (fun hH => ?_)
            clear hK K hH
            (try simp only [Act.put, List.getElem_toArray, List.getElem_cons_succ, List.getElem_cons_zero, List.setIfInBounds_toArray, List.set_cons_zero, List.set_cons_succ])
            have b0 := HP.out.b.cell 0; have b1 := HP.out.b.cell 1; have b2 := HP.out.b.cell 2; have b3 := HP.out.b.cell 3; have b4 := HP.out.b.cell 4
            have k0 := HP.out.b.frozen 0; have k1 := HP.out.b.frozen 1; have k2 := HP.out.b.frozen 2; have k3 := HP.out.b.frozen 3; have k4 := HP.out.b.frozen 4
            have d0 := HQ.out.b.cell 0; have d1 := HQ.out.b.cell 1; have d2 := HQ.out.b.cell 2; have d3 := HQ.out.b.cell 3; have d4 := HQ.out.b.cell 4
            have m0' := HQ.out.b.frozen 0; have m1 := HQ.out.b.frozen 1; have m2 := HQ.out.b.frozen 2; have m3 := HQ.out.b.frozen 3; have m4 := HQ.out.b.frozen 4
            simp at b0 b1 b2 b3 b4 d0 d1 d2 d3 d4
            have e1 := HNE.out; have e2 := Ne.symm HNE.out
            refine wpAnyH_ready (rs := [16]) (by kernel_rfl) (by simp) (AllReadyH.cons rfl (fun K hK => ?_) AllReadyH.nil)
            go_simp
            refine hK.out _ _ (KT2.of HBX.out HBY.out (ext_stow HX.out HP.out.lo _ _ _ _ _)) (fun hH => ?_)
            clear hK K hH
            (try simp only [Act.put, List.getElem_toArray, List.getElem_cons_succ, List.getElem_cons_zero, List.setIfInBounds_toArray, List.set_cons_zero, List.set_cons_succ])
            refine wpAnyH_ready (rs := [17]) (by kernel_rfl) (by simp) (AllReadyH.cons rfl (fun K hK => ?_) AllReadyH.nil)
            go_simp
            refine hK.out _ _ (KT2.of HBX.out HBY.out (ext_stow (ext_stow HX.out HP.out.lo _ _ _ _ _) HQ.out.lo _ _ _ _ _)) (fun hH => ?_)
            clear hK K hH b0 b1 b2 b3 b4 k0 k1 k2 k3 k4 d0 d1 d2 d3 d4 m0' m1 m2 m3 m4 e1 e2
            (try simp only [Act.put, List.getElem_toArray, List.getElem_cons_succ, List.getElem_cons_zero, List.setIfInBounds_toArray, List.set_cons_zero, List.set_cons_succ])
            refine wpAnyH_done (by kernel_rfl) ?_ _
            refine NoPanic.normal ?_
            go_wp2_with fail
            go_meet
            case rel => exact ⟨gp, gq, F1, f1, G1, g1, F2, f2, G2, g2, rfl, rfl, Lib.hid (two_put f1 g1 f2 g2 HX.out HP.out HQ.out HNE.out HA.out HB.out), Lib.hid ⟨HKA.out.2.2.1, HKA.out.2.2.2⟩⟩
    · go_simp
      have hx := Ext.alloc w0 (.cells z5 31)
      have hn := Bk.new HX.out
      refine hK.out _ _ (KT2.of HBX.out HBY.out (HX.out.trans hx)) (fun hH => ?_)
      clear hK K hH
      (try simp only [Act.put, List.getElem_toArray, List.getElem_cons_succ, List.getElem_cons_zero, List.setIfInBounds_toArray, List.set_cons_zero, List.set_cons_succ])
      obtain ⟨w1, hw⟩ : ∃ w1, w0.alloc (.cells z5 31) = w1 := ⟨_, rfl⟩
      rw [hw] at hx hn
      replace HX := Lib.hid (HX.out.trans hx)
      have HQ := Lib.hid hn
      rw [show w0.alloc (.cells #[.int .i64 0, .int .i64 0, .int .i64 0, .slice none 0 0, .slice none 0 0] 31) = w1 from hw]
      clear hw hx hn
      generalize w0.heap.size = gq at *
      refine wpAnyH_ready (rs := [6, 14]) (by kernel_rfl) (by simp) (AllReadyH.cons rfl (fun K hK => ?_) (AllReadyH.cons rfl (fun K hK => ?_) AllReadyH.nil))
      · go_simp
        go_at_call 10; refine (HA0.out _ HX.out).mono ?_
        rintro e w2 ⟨F1, f1, G1, g1, rfl, hla, hlb, hk, hx⟩
        replace HX := Lib.hid (HX.out.trans hx)
        have HA := Lib.hid (Lo.mk hla.lies hlb.lies)
        have HKA := Lib.hid hk
        replace HQ := Lib.hid (HQ.out.ext hx)
        clear hla hlb hk hx
        go_wp2_with fail
        refine hK.out _ _ (KT2.of HBX.out HBY.out HX.out) (fun hH => ?_)
        clear hK K hH
        (try simp only [Act.put, List.getElem_toArray, List.getElem_cons_succ, List.getElem_cons_zero, List.setIfInBounds_toArray, List.set_cons_zero, List.set_cons_succ])
        refine wpAnyH_ready (rs := [13, 14]) (by kernel_rfl) (by simp) (AllReadyH.cons rfl (fun K hK => ?_) (AllReadyH.cons rfl (fun K hK => ?_) AllReadyH.nil))
        · go_simp
          go_at_call 10; refine (HB0.out _ HX.out).mono ?_
          rintro e w3 ⟨F2, f2, G2, g2, rfl, hla, hlb, hk, hx⟩
          replace HX := Lib.hid (HX.out.trans hx)
          have HB := Lib.hid (Lo.mk hla.lies hlb.lies)
          have HKB := Lib.hid hk
          replace HQ := Lib.hid (HQ.out.ext hx)
          replace HA := Lib.hid (HA.out.ext hx)
          clear hla hlb hk hx
          go_wp2_with fail
          refine hK.out _ _ (KT2.of HBX.out HBY.out HX.out) (fun hH => ?_)
          clear hK K hH
          (try simp only [Act.put, List.getElem_toArray, List.getElem_cons_succ, List.getElem_cons_zero, List.setIfInBounds_toArray, List.set_cons_zero, List.set_cons_succ])
          refine wpAnyH_ready (rs := [14]) (by kernel_rfl) (by simp) (AllReadyH.cons rfl (fun K hK => ?_) AllReadyH.nil)
          · go_simp
            have hx := Ext.alloc w3 (.cells z5 31)
            have hn := Bk.new HX.out
            refine hK.out _ _ (KT2.of HBX.out HBY.out (HX.out.trans hx)) (fun hH => ?_)
            clear hK K hH
            (try simp only [Act.put, List.getElem_toArray, List.getElem_cons_succ, List.getElem_cons_zero, List.setIfInBounds_toArray, List.set_cons_zero, List.set_cons_succ])
            have hlt := HQ.out.b.lt
            obtain ⟨w4, hw⟩ : ∃ w4, w3.alloc (.cells z5 31) = w4 := ⟨_, rfl⟩
            rw [hw] at hx hn
            replace HX := Lib.hid (HX.out.trans hx)
            have HP := Lib.hid hn
            replace HQ := Lib.hid (HQ.out.ext hx)
            replace HA := Lib.hid (HA.out.ext hx)
            replace HB := Lib.hid (HB.out.ext hx)
            rw [show w3.alloc (.cells #[.int .i64 0, .int .i64 0, .int .i64 0, .slice none 0 0, .slice none 0 0] 31) = w4 from hw]
            clear hw hx hn
            generalize w3.heap.size = gp at *
            have HNE := Lib.hid (show gp ≠ gq by omega)
            clear hlt
            have b0 := HP.out.b.cell 0; have b1 := HP.out.b.cell 1; have b2 := HP.out.b.cell 2; have b3 := HP.out.b.cell 3; have b4 := HP.out.b.cell 4
            have k0 := HP.out.b.frozen 0; have k1 := HP.out.b.frozen 1; have k2 := HP.out.b.frozen 2; have k3 := HP.out.b.frozen 3; have k4 := HP.out.b.frozen 4
            have d0 := HQ.out.b.cell 0; have d1 := HQ.out.b.cell 1; have d2 := HQ.out.b.cell 2; have d3 := HQ.out.b.cell 3; have d4 := HQ.out.b.cell 4
            have m0' := HQ.out.b.frozen 0; have m1 := HQ.out.b.frozen 1; have m2 := HQ.out.b.frozen 2; have m3 := HQ.out.b.frozen 3; have m4 := HQ.out.b.frozen 4
            simp at b0 b1 b2 b3 b4 d0 d1 d2 d3 d4
            have e1 := HNE.out; have e2 := Ne.symm HNE.out
            refine wpAnyH_ready (rs := [16]) (by kernel_rfl) (by simp) (AllReadyH.cons rfl (fun K hK => ?_) AllReadyH.nil)
            go_simp
            refine hK.out _ _ (KT2.of HBX.out HBY.out (ext_stow HX.out HP.out.lo _ _ _ _ _)) (fun hH => ?_)
            clear hK K hH
            (try simp only [Act.put, List.getElem_toArray, List.getElem_cons_succ, List.getElem_cons_zero, List.setIfInBounds_toArray, List.set_cons_zero, List.set_cons_succ])
            refine wpAnyH_ready (rs := [17]) (by kernel_rfl) (by simp) (AllReadyH.cons rfl (fun K hK => ?_) AllReadyH.nil)
            go_simp
            refine hK.out _ _ (KT2.of HBX.out HBY.out (ext_stow (ext_stow HX.out HP.out.lo _ _ _ _ _) HQ.out.lo _ _ _ _ _)) (fun hH => ?_)
            clear hK K hH b0 b1 b2 b3 b4 k0 k1 k2 k3 k4 d0 d1 d2 d3 d4 m0' m1 m2 m3 m4 e1 e2
            (try simp only [Act.put, List.getElem_toArray, List.getElem_cons_succ, List.getElem_cons_zero, List.setIfInBounds_toArray, List.set_cons_zero, List.set_cons_succ])
            refine wpAnyH_done (by kernel_rfl) ?_ _
            refine NoPanic.normal ?_
            go_wp2_with fail
            go_meet
            case rel => exact ⟨gp, gq, F1, f1, G1, g1, F2, f2, G2, g2, rfl, rfl, Lib.hid (two_put f1 g1 f2 g2 HX.out HP.out HQ.out HNE.out HA.out HB.out), Lib.hid ⟨HKA.out.2.2.1, HKA.out.2.2.2⟩⟩
        · go_simp
          have hx := Ext.alloc w2 (.cells z5 31)
          have hn := Bk.new HX.out
          refine hK.out _ _ (KT2.of HBX.out HBY.out (HX.out.trans hx)) (fun hH => ?_)
          clear hK K hH
          (try simp only [Act.put, List.getElem_toArray, List.getElem_cons_succ, List.getElem_cons_zero, List.setIfInBounds_toArray, List.set_cons_zero, List.set_cons_succ])
          have hlt := HQ.out.b.lt
          obtain ⟨w3, hw⟩ : ∃ w3, w2.alloc (.cells z5 31) = w3 := ⟨_, rfl⟩
          rw [hw] at hx hn
          replace HX := Lib.hid (HX.out.trans hx)
          have HP := Lib.hid hn
          replace HQ := Lib.hid (HQ.out.ext hx)
          replace HA := Lib.hid (HA.out.ext hx)
          rw [show w2.alloc (.cells #[.int .i64 0, .int .i64 0, .int .i64 0, .slice none 0 0, .slice none 0 0] 31) = w3 from hw]
          clear hw hx hn
          generalize w2.heap.size = gp at *
          have HNE := Lib.hid (show gp ≠ gq by omega)
          clear hlt
          refine wpAnyH_ready (rs := [13]) (by kernel_rfl) (by simp) (AllReadyH.cons rfl (fun K hK => ?_) AllReadyH.nil)
          · go_simp
            go_at_call 10; refine (HB0.out _ HX.out).mono ?_
            rintro e w4 ⟨F2, f2, G2, g2, rfl, hla, hlb, hk, hx⟩
            replace HX := Lib.hid (HX.out.trans hx)
            have HB := Lib.hid (Lo.mk hla.lies hlb.lies)
            have HKB := Lib.hid hk
            replace HP := Lib.hid (HP.out.ext hx)
            replace HQ := Lib.hid (HQ.out.ext hx)
            replace HA := Lib.hid (HA.out.ext hx)
            clear hla hlb hk hx
            go_wp2_with fail
            refine hK.out _ _ (KT2.of HBX.out HBY.out HX.out) (fun hH => ?_)
            clear hK K hH
            (try simp only [Act.put, List.getElem_toArray, List.getElem_cons_succ, List.getElem_cons_zero, List.setIfInBounds_toArray, List.set_cons_zero, List.set_cons_succ])
            have b0 := HP.out.b.cell 0; have b1 := HP.out.b.cell 1; have b2 := HP.out.b.cell 2; have b3 := HP.out.b.cell 3; have b4 := HP.out.b.cell 4
            have k0 := HP.out.b.frozen 0; have k1 := HP.out.b.frozen 1; have k2 := HP.out.b.frozen 2; have k3 := HP.out.b.frozen 3; have k4 := HP.out.b.frozen 4
            have d0 := HQ.out.b.cell 0; have d1 := HQ.out.b.cell 1; have d2 := HQ.out.b.cell 2; have d3 := HQ.out.b.cell 3; have d4 := HQ.out.b.cell 4
            have m0' := HQ.out.b.frozen 0; have m1 := HQ.out.b.frozen 1; have m2 := HQ.out.b.frozen 2; have m3 := HQ.out.b.frozen 3; have m4 := HQ.out.b.frozen 4
            simp at b0 b1 b2 b3 b4 d0 d1 d2 d3 d4
            have e1 := HNE.out; have e2 := Ne.symm HNE.out
            refine wpAnyH_ready (rs := [16]) (by kernel_rfl) (by simp) (AllReadyH.cons rfl (fun K hK => ?_) AllReadyH.nil)
            go_simp
            refine hK.out _ _ (KT2.of HBX.out HBY.out (ext_stow HX.out HP.out.lo _ _ _ _ _)) (fun hH => ?_)
            clear hK K hH
            (try simp only [Act.put, List.getElem_toArray, List.getElem_cons_succ, List.getElem_cons_zero, List.setIfInBounds_toArray, List.set_cons_zero, List.set_cons_succ])
            refine wpAnyH_ready (rs := [17]) (by kernel_rfl) (by simp) (AllReadyH.cons rfl (fun K hK => ?_) AllReadyH.nil)
            go_simp
            refine hK.out _ _ (KT2.of HBX.out HBY.out (ext_stow (ext_stow HX.out HP.out.lo _ _ _ _ _) HQ.out.lo _ _ _ _ _)) (fun hH => ?_)
            clear hK K hH b0 b1 b2 b3 b4 k0 k1 k2 k3 k4 d0 d1 d2 d3 d4 m0' m1 m2 m3 m4 e1 e2
            (try simp only [Act.put, List.getElem_toArray, List.getElem_cons_succ, List.getElem_cons_zero, List.setIfInBounds_toArray, List.set_cons_zero, List.set_cons_succ])
            refine wpAnyH_done (by kernel_rfl) ?_ _
            refine NoPanic.normal ?_
            go_wp2_with fail
            go_meet
            case rel => exact ⟨gp, gq, F1, f1, G1, g1, F2, f2, G2, g2, rfl, rfl, Lib.hid (two_put f1 g1 f2 g2 HX.out HP.out HQ.out HNE.out HA.out HB.out), Lib.hid ⟨HKA.out.2.2.1, HKA.out.2.2.2⟩⟩
      · go_simp
        have hx := Ext.alloc w1 (.cells z5 31)
        have hn := Bk.new HX.out
        refine hK.out _ _ (KT2.of HBX.out HBY.out (HX.out.trans hx)) (fun hH => ?_)
        clear hK K hH
        (try simp only [Act.put, List.getElem_toArray, List.getElem_cons_succ, List.getElem_cons_zero, List.setIfInBounds_toArray, List.set_cons_zero, List.set_cons_succ])
        have hlt := HQ.out.b.lt
        obtain ⟨w2, hw⟩ : ∃ w2, w1.alloc (.cells z5 31) = w2 := ⟨_, rfl⟩
        rw [hw] at hx hn
        replace HX := Lib.hid (HX.out.trans hx)
        have HP := Lib.hid hn
        replace HQ := Lib.hid (HQ.out.ext hx)
        rw [show w1.alloc (.cells #[.int .i64 0, .int .i64 0, .int .i64 0, .slice none 0 0, .slice none 0 0] 31) = w2 from hw]
        clear hw hx hn
        generalize w1.heap.size = gp at *
        have HNE := Lib.hid (show gp ≠ gq by omega)
        clear hlt
        refine wpAnyH_ready (rs := [6]) (by kernel_rfl) (by simp) (AllReadyH.cons rfl (fun K hK => ?_) AllReadyH.nil)
        · go_simp
          go_at_call 10; refine (HA0.out _ HX.out).mono ?_
          rintro e w3 ⟨F1, f1, G1, g1, rfl, hla, hlb, hk, hx⟩
          replace HX := Lib.hid (HX.out.trans hx)
          have HA := Lib.hid (Lo.mk hla.lies hlb.lies)
          have HKA := Lib.hid hk
          replace HP := Lib.hid (HP.out.ext hx)
          replace HQ := Lib.hid (HQ.out.ext hx)
          clear hla hlb hk hx
          go_wp2_with fail
          refine hK.out _ _ (KT2.of HBX.out HBY.out HX.out) (fun hH => ?_)
          clear hK K hH
          (try simp only [Act.put, List.getElem_toArray, List.getElem_cons_succ, List.getElem_cons_zero, List.setIfInBounds_toArray, List.set_cons_zero, List.set_cons_succ])
          refine wpAnyH_ready (rs := [13]) (by kernel_rfl) (by simp) (AllReadyH.cons rfl (fun K hK => ?_) AllReadyH.nil)
          · go_simp
            go_at_call 10; refine (HB0.out _ HX.out).mono ?_
            rintro e w4 ⟨F2, f2, G2, g2, rfl, hla, hlb, hk, hx⟩
            replace HX := Lib.hid (HX.out.trans hx)
            have HB := Lib.hid (Lo.mk hla.lies hlb.lies)
            have HKB := Lib.hid hk
            replace HP := Lib.hid (HP.out.ext hx)
            replace HQ := Lib.hid (HQ.out.ext hx)
            replace HA := Lib.hid (HA.out.ext hx)
            clear hla hlb hk hx
            go_wp2_with fail
            refine hK.out _ _ (KT2.of HBX.out HBY.out HX.out) (fun hH => ?_)
            clear hK K hH
            (try simp only [Act.put, List.getElem_toArray, List.getElem_cons_succ, List.getElem_cons_zero, List.setIfInBounds_toArray, List.set_cons_zero, List.set_cons_succ])
            have b0 := HP.out.b.cell 0; have b1 := HP.out.b.cell 1; have b2 := HP.out.b.cell 2; have b3 := HP.out.b.cell 3; have b4 := HP.out.b.cell 4
            have k0 := HP.out.b.frozen 0; have k1 := HP.out.b.frozen 1; have k2 := HP.out.b.frozen 2; have k3 := HP.out.b.frozen 3; have k4 := HP.out.b.frozen 4
            have d0 := HQ.out.b.cell 0; have d1 := HQ.out.b.cell 1; have d2 := HQ.out.b.cell 2; have d3 := HQ.out.b.cell 3; have d4 := HQ.out.b.cell 4
            have m0' := HQ.out.b.frozen 0; have m1 := HQ.out.b.frozen 1; have m2 := HQ.out.b.frozen 2; have m3 := HQ.out.b.frozen 3; have m4 := HQ.out.b.frozen 4
            simp at b0 b1 b2 b3 b4 d0 d1 d2 d3 d4
            have e1 := HNE.out; have e2 := Ne.symm HNE.out
            refine wpAnyH_ready (rs := [16]) (by kernel_rfl) (by simp) (AllReadyH.cons rfl (fun K hK => ?_) AllReadyH.nil)
            go_simp
            refine hK.out _ _ (KT2.of HBX.out HBY.out (ext_stow HX.out HP.out.lo _ _ _ _ _)) (fun hH => ?_)
            clear hK K hH
            (try simp only [Act.put, List.getElem_toArray, List.getElem_cons_succ, List.getElem_cons_zero, List.setIfInBounds_toArray, List.set_cons_zero, List.set_cons_succ])
            refine wpAnyH_ready (rs := [17]) (by kernel_rfl) (by simp) (AllReadyH.cons rfl (fun K hK => ?_) AllReadyH.nil)
            go_simp
            refine hK.out _ _ (KT2.of HBX.out HBY.out (ext_stow (ext_stow HX.out HP.out.lo _ _ _ _ _) HQ.out.lo _ _ _ _ _)) (fun hH => ?_)
            clear hK K hH b0 b1 b2 b3 b4 k0 k1 k2 k3 k4 d0 d1 d2 d3 d4 m0' m1 m2 m3 m4 e1 e2
            (try simp only [Act.put, List.getElem_toArray, List.getElem_cons_succ, List.getElem_cons_zero, List.setIfInBounds_toArray, List.set_cons_zero, List.set_cons_succ])
            refine wpAnyH_done (by kernel_rfl) ?_ _
            refine NoPanic.normal ?_
            go_wp2_with fail
            go_meet
            case rel => exact ⟨gp, gq, F1, f1, G1, g1, F2, f2, G2, g2, rfl, rfl, Lib.hid (two_put f1 g1 f2 g2 HX.out HP.out HQ.out HNE.out HA.out HB.out), Lib.hid ⟨HKA.out.2.2.1, HKA.out.2.2.2⟩⟩
  case rest =>
  obtain ⟨gp, gq, F1, f1, G1, g1, F2, f2, G2, g2, rfl, rfl, HTW, HKG⟩ := hcut
  clear HA0 HB0 HF HF2 HBX HBY HK HK3
  have HX4 := Lib.hid (HXZ.out.trans HTW.out.e)
  obtain ⟨la, hla⟩ : ∃ la, R1.ls = la := ⟨_, rfl⟩
  obtain ⟨lb, hlb⟩ : ∃ lb, R2.ls = lb := ⟨_, rfl⟩
  have HLA := Lib.hid (show Lies wc G1 (la.flatMap lcl) from hla ▸ HTW.out.x.lb)
  have HLB := Lib.hid (show Lies wc G2 (lb.flatMap lcl) from hlb ▸ HTW.out.y.lb)
  have x4 : wc.cell? ⟨gp, 4, none⟩ = some (.slice G1 la.length g1) := hla ▸ HTW.out.x.b.cell 4
  have y4 : wc.cell? ⟨gq, 4, none⟩ = some (.slice G2 lb.length g2) := hlb ▸ HTW.out.y.b.cell 4
  have H9A := Lib.hid (show la.length ≤ 100000 by rw [← hla]; have := HLN.out; omega)
  have H9B := Lib.hid (show lb.length ≤ 100000 by rw [← hlb]; have := HLN2.out; omega)
  have H8A := Lib.hid (show la.length ≤ 10000 by rw [← hla]; have := HLN.out; omega)
  have HHA := Lib.hid (show ∀ (k : Nat) (l : L), la[k]? = some l → l.h < 65536 from fun k l hk => HH.out l (by rw [hla]; exact List.mem_of_getElem? hk))
  have HKA := Lib.hid (show la.length ≤ g1 ∧ g1 ≤ maxLen from hla ▸ HKG.out)
  have rx := fun d os => cell_regrown x4 d os
  have ry := fun d os => cell_regrown y4 d os
  clear HTW HKG HLN HLN2 HH hla hlb x4 y4
  have hC1 : ∀ w', Ext wc w' → Calls Tryd.prog 17 #[.slice G1 la.length g1] w' fun e w'' => e = .returned (.int .i64 (cycT la la.length)) ∧ Below w'.heap.size w' w'' := fun w' hx => cyclesP G1 g1 la w' (hx.lies HLA.out) H8A.out HKA.out.1 HKA.out.2 HHA.out (HT.out.below (HX4.out.trans hx))
  have hC2 : ∀ w', Ext wc w' → Calls Tryd.prog 18 #[.slice G1 la.length g1] w' fun e w'' => e = .returned (.int .i64 (cycT la la.length)) ∧ Below w'.heap.size w' w'' := fun w' hx => rcyclesP G1 g1 la w' (hx.lies HLA.out) H8A.out HHA.out
  have hR3 : ∀ w', Ext wc w' → Calls Tryd.prog 15 #[.slice G1 la.length g1, .slice G1 la.length g1] w' fun e w'' => e = .returned (.bool true) ∧ Below w'.heap.size w' w'' := fun w' hx => road_self la ▸ road G1 G1 g1 g1 la la w' (hx.lies HLA.out) (hx.lies HLA.out) H9A.out H9A.out
  have hLV : ∀ w', Ext wc w' → Calls Tryd.prog 14 #[] w' fun e w'' => e = .returned (.bool true) ∧ Below w'.heap.size w' w'' := fun w' hx => lives w' (HT.out.below (HX4.out.trans hx))
  generalize cycT la la.length = cy at *
  obtain ⟨qv, hqv⟩ : ∃ qv, roadB la lb = qv := ⟨_, rfl⟩
  have HQV := Lib.hid hqv
  have hR1 : ∀ w', Ext wc w' → Calls Tryd.prog 15 #[.slice G1 la.length g1, .slice G2 lb.length g2] w' fun e w'' => e = .returned (.bool qv) ∧ Below w'.heap.size w' w'' := fun w' hx => HQV.out ▸ road G1 G2 g1 g2 la lb w' (hx.lies HLA.out) (hx.lies HLB.out) H9A.out H9B.out
  have hR2 : ∀ w', Ext wc w' → Calls Tryd.prog 16 #[.slice G1 la.length g1, .slice G2 lb.length g2] w' fun e w'' => e = .returned (.bool qv) ∧ Below w'.heap.size w' w'' := fun w' hx => HQV.out ▸ rroad G1 G2 g1 g2 la lb w' (hx.lies HLA.out) (hx.lies HLB.out) H9A.out H9B.out
  have HC1 := Lib.hid hC1; have HC2 := Lib.hid hC2; have HR1 := Lib.hid hR1; have HR2 := Lib.hid hR2; have HR3 := Lib.hid hR3; have HLV := Lib.hid hLV
  clear hC1 hC2 hR1 hR2 hR3 hLV hqv HQV
  generalize la.length = na at *
  generalize lb.length = nb at *
  cases qv
  all_goals
    go_wp2_with fail
    refine wp_region_quiet_below (by kernel_rfl) (by kernel_rfl) ?_
    repeat (go_big_quiet_step ((first | (go_at_call 15; with_reducible exact Calls.regrown_of (HR1.out _ (ext_regrown _ _ _))) | (go_at_call 15; with_reducible exact Calls.regrown_of (HR3.out _ (ext_regrown _ _ _))) | (go_at_call 16; with_reducible exact Calls.regrown_of (HR2.out _ (ext_regrown _ _ _))) | (go_at_call 17; with_reducible exact Calls.regrown_of (HC1.out _ (ext_regrown _ _ _))) | (go_at_call 18; with_reducible exact Calls.regrown_of (HC2.out _ (ext_regrown _ _ _))) | (go_at_call 14; with_reducible exact Calls.regrown_of (HLV.out _ (ext_regrown _ _ _))))))
    refine wpQuiet_nil ?_
    intro _ hw'
    obtain ⟨⟨dq, osq⟩, hw''⟩ := hw'
    subst hw''
    have HX := Lib.hid (HX4.out.trans (below_regrown wc dq osq))
    clear rx ry
    generalize Go.Sort.grow (redrawn wc dq) osq = wq at *
    go_wp2_with fail
    go_ret
    exact ⟨rfl, HX.out⟩
end Go.Proofs.YtkafmpdjpjgkgaaDoor.Rn
