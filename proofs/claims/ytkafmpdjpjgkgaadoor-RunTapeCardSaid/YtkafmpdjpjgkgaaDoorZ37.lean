/- DERIVED. RnTp in one text. By an AI agent. -/
import Derived.Test.YtkafmpdjpjgkgaaDoorZ35
import Derived.Deep.RegionHeld3
import Derived.Deep.DeepCutAuto
/- DERIVED. The walk of RunTape. By an AI agent. -/
namespace Go.Proofs.YtkafmpdjpjgkgaaDoor.Rn
open Go.ChangeShapes Go.WideShapes Go.ChangeAt Go.RowKit WMath Word Args Mm Co Lk
set_option linter.unusedVariables false
set_option linter.unusedSimpArgs false
theorem grown_ext {wz w w' : World} {o : Option Nat} (h : Ext wz w) (hg : w.grownBy w' o) (ho : ∀ k, o = some k → wz.heap.size ≤ k) : Ext wz w' := Below.grown h hg (Below.size h) ho
theorem own_block {w : World} {base : Nat} {e : TypeId} {size n c : Nat} {A : Option Addr} {xs : List Value} (h : w.ownsRow base e size (.slice A n c) n xs) : ∀ k, (Value.slice A n c).ownBlock = some k → base ≤ k := fun k hk => by
  rcases own_form h with ⟨e2, _⟩ | ⟨g2, e2, h3, _⟩
  · rw [e2] at hk; simp [Value.ownBlock] at hk
  · rw [e2] at hk; simp [Value.ownBlock] at hk; omega
theorem own_heap' {w : World} {base : Nat} {e : TypeId} {size n c : Nat} {g : Nat} {A : Option Addr} {xs : List Value} (h : w.ownsRow base e size (.slice A n c) n xs) (hA : A = some ⟨g, 0, none⟩) : ∃ cur, w.heap[g]? = some (.cells cur e (0, 0)) := by
  rcases h.2 with ⟨e1, _⟩ | ⟨g', cap, cur, e1, _, hg, _⟩
  · injection e1 with e1; rw [hA] at e1; cases e1
  · injection e1 with e1; rw [hA] at e1; cases e1; exact ⟨cur, hg⟩
/-- A box stays, whatever row of another type has grown. -/
theorem Bk.grow {wz w w' : World} {g : Nat} {base : Nat} {size n c : Nat} {A : Option Addr} {xs : List Value} (hb : Bk wz g w) (hg : w.grownBy w' (Value.slice A n c).ownBlock) (ho : w.ownsRow base 36 size (.slice A n c) n xs) : Bk wz g w' := by
  refine ⟨(hg.block g hb.b.lt fun q => ?_).trans hb.b, hb.lo⟩
  rcases own_form ho with ⟨e2, _⟩ | ⟨g2, e2, _, _⟩
  · rw [e2] at q; simp [Value.ownBlock] at q
  · obtain ⟨cur, hc⟩ := own_heap' ho e2
    rw [e2] at q; simp [Value.ownBlock] at q
    have hb' : w.heap[g]? = some (.cells z5 31 (0, 0)) := hb.b
    rw [show g = g2 by omega, hc] at hb'
    injection hb' with hb'; injection hb' with _ h2; exact absurd h2 (by decide)
theorem m0_ext (C D T X : List Int) : m0 C D (T ++ X) = ext (m0 C D T) X := rfl
theorem fit_ext {C D T X : List Int} (h : Fit (m0 C D T)) (hx : ∀ z ∈ X, 0 ≤ z ∧ z < 4294967296) (hl : (T ++ X).length ≤ 60000) : Fit (m0 C D (T ++ X)) := by
  refine ⟨h.c, h.w, fun z hz => ?_, Nat.zero_le _, h.b, h.cl, h.wl, ?_⟩
  · rcases List.mem_append.1 hz with h1 | h1
    · exact h.t z h1
    · exact hx z h1
  · show (T ++ X).length ≤ _; omega
set_option maxRecDepth 100000 in
set_option maxHeartbeats 16000000 in
theorem runTape.walk (W : World) (v : Value) (C D T : List Int) (h : IsCase W v C D T) (v2 : Value) (M : List Int) (hM : Ints .u32 4 W v2 M) (hT : Tp.Tb W) :
    Calls Tryd.prog 7 #[v, v2] W fun e w' => e = .returned (.bool true) ∧ Below W.heap.size W w' := by
  obtain ⟨A1, c1, A2, c2, A3, c3, rfl, hcap, hC, hD, hE, hfit⟩ := h.open_
  obtain ⟨AM, cM, rfl, hlm, hmm, hML⟩ := hM.ex
  have hmw := fun z hz => in_u32 (hM.wf z (List.mem_of_mem_take (i := 50) hz))
  clear h hM
  obtain ⟨j0, hj, hy0, hy1, hy2⟩ := info_parts info32
  have hsm := small A1 c1 C A2 c2 D A3 c3 T (W.alloc (.cells (kC C D T A1 c1 A2 c2 A3 c3) 25)) ((Ext.alloc _ _).lies hC) ((Ext.alloc _ _).lies hD) ((Ext.alloc _ _).lies hE) hcap.1 hcap.2.1 hcap.2.2.1 hcap.2.2.2.1 hcap.2.2.2.2.1 hcap.2.2.2.2.2
  have hb0 := Blk.new W 25 (kC C D T A1 c1 A2 c2 A3 c3)
  have hx0 := Ext.alloc W (.cells (kC C D T A1 c1 A2 c2 A3 c3) 25)
  have hs0 : (W.alloc (.cells (kC C D T A1 c1 A2 c2 A3 c3) 25)).heap.size = W.heap.size + 1 := World.size_alloc _ _
  have t2 := take_len D 30; have t3 := take_len T 50
  have l1 := take_len M 50
  have l2 : (M.take 50).length ≤ cM := by rw [List.length_take]; omega
  have e1 : M.length ≤ 50 → (M.take 50).length = M.length := fun h => by rw [List.length_take]; omega
  have e2 : 50 < M.length → (M.take 50).length = 50 := fun h => by rw [List.length_take]; omega
  have hml := lies_take hML 50
  have hma : 50 < M.length → ∃ b o, AM = some ⟨b, o, none⟩ := fun h => lies_addr hML (by omega)
  generalize C.take 100 = C1 at *
  generalize D.take 30 = D1 at *
  generalize T.take 50 = T1 at *
  generalize M.take 50 = M1 at *
  obtain ⟨X, hX⟩ : ∃ X, X = T1 ++ M1 := ⟨_, rfl⟩
  have hXL : X.length = T1.length + M1.length := by rw [hX, List.length_append]
  have hfx : Fit (m0 C1 D1 X) := by rw [hX]; exact fit_ext hfit hmw (by rw [← hX]; omega)
  have HJ := Lib.hid hj; have HY0 := Lib.hid hy0; have HY1 := Lib.hid hy1; have HY2 := Lib.hid hy2
  have HSM := Lib.hid hsm; have HB0 := Lib.hid hb0; have HX0 := Lib.hid hx0; have HS0 := Lib.hid hs0
  have T2' := Lib.hid t2; have T3' := Lib.hid t3; have HF := Lib.hid hfit; have HT := Lib.hid hT
  have L1 := Lib.hid l1; have L2 := Lib.hid l2; have HE1 := Lib.hid e1; have HE2 := Lib.hid e2; have HML := Lib.hid hml; have HMA := Lib.hid hma; have HLM := Lib.hid hlm
  have HXE := Lib.hid hX; have HXO := Lib.hid hXL.symm; have HFX := Lib.hid hfx; have HMM := Lib.hid hmm
  have HLX := Lib.hid (show X.length ≤ 100 by omega)
  clear hj hy0 hy1 hy2 hsm hb0 hx0 hs0 t2 t3 hfit hT hC hD hE hcap l1 l2 e1 e2 hml hma hlm hmm hML hmw hX hXL hfx
  go_enter Tryd.func7, Tryd.ntmps7
  go_upto_region 1 with fail
  generalize W.alloc (.cells #[.slice A1 C.length c1, .slice A2 D.length c2, .slice A3 T.length c3] 25) = w0 at *
  have x0 := HB0.out.cell 0; have x1 := HB0.out.cell 1; have x2 := HB0.out.cell 2
  simp at x0 x1 x2
  go_wp2_with fail
  refine HSM.out.mono ?_
  rintro e w1 ⟨B1, d1, B2, d2, B3, d3, rfl, hk, hl1, hl2, hl3, hx1⟩
  have HK := Lib.hid hk; have HL1 := Lib.hid hl1; have HL2 := Lib.hid hl2; have HL3 := Lib.hid hl3
  have HB1 := Lib.hid (HB0.out.below hx1 HB0.out.lt); have HX1 := Lib.hid (HX0.out.trans hx1)
  clear hk hl1 hl2 hl3 hx1 x0 x1 x2 HB0 HX0 HSM
  have x0 := HB1.out.cell 0; have x1 := HB1.out.cell 1; have x2 := HB1.out.cell 2
  have f0 := HB1.out.frozen 0; have f1 := HB1.out.frozen 1; have f2 := HB1.out.frozen 2
  simp at x0 x1 x2
  go_upto_region 2 with fail
  clear x0 x1 x2 f0 f1 f2
  obtain ⟨w2, hw2, hbx, hx2⟩ := bx_put (c1 := d1) (c2 := d2) (c3 := d3) HB1.out HX1.out (HS0.out ▸ HL1.out) (HS0.out ▸ HL2.out) (HS0.out ▸ HL3.out)
  simp only [stow3] at hw2
  rw [hw2]
  have HBX2 := Lib.hid hbx; have HX2 := Lib.hid hx2
  clear hw2 hbx hx2 HB1 HX1 HL1 HL2 HL3 HS0
  go_upto_if 11 with fail
  go_cut [1] (fun v wx => v = .slice AM M1.length cM ∧ w2 = wx)
  case first =>
    by_cases hl : 50 < M.length
    · obtain ⟨b, o, rfl⟩ := HMA.out hl
      have hl2 : (50 : Int) < (M.length : Int) := by omega
      have hl3 : (50 : Int) ≤ (cM : Int) := by have := HLM.out; omega
      have E := Lib.hid (HE2.out hl)
      clear hl
      go_wp2_with fail
      go_meet
      case rel => exact ⟨by rw [E.out], rfl⟩
    · have hl2 : decide ((50 : Int) < (M.length : Int)) = false := by simp; omega
      have hl5 : ¬ (50 : Int) < (M.length : Int) := by omega
      have E := Lib.hid (HE1.out (by omega))
      clear hl
      go_wp2_with fail
      go_meet
      case rel => exact ⟨by rw [E.out], rfl⟩
  case rest =>
  obtain ⟨rfl, rfl⟩ := hcut
  clear HE1 HE2 HMA HLM L2 HMM
  have x0 := HBX2.out.b.cell 0; have x1 := HBX2.out.b.cell 1; have x2 := HBX2.out.b.cell 2
  simp at x0 x1 x2
  go_wp2_with fail
  refine (exec B1 d1 C1 B2 d2 D1 B3 d3 T1 200 200 200 w2 HBX2.out.la HBX2.out.lb HBX2.out.lc HK.out.1 HK.out.2.1 HK.out.2.2.1 HK.out.2.2.2.1 HF.out T2'.out (by have := T3'.out; omega) (by decide) (by decide) (by decide) (HT.out.below HX2.out)).mono ?_
  have h51 := run_ext51 200 zS (m0 C1 D1 T1) M1
  have hext := run_ext 200 zS (m0 C1 D1 T1) M1
  have hlen := run_len 200 zS (m0 C1 D1 T1)
  have hTT := (run_T 200 zS (m0 C1 D1 T1)).2
  rw [← m0_ext, ← HXE.out] at h51 hext
  generalize runV 200 zS (m0 C1 D1 T1) = R at *
  have HLN := Lib.hid (show R.ls.length ≤ 100000 by omega)
  have HD9 := Lib.hid (show R.m.W.length ≤ 100000 by have h1 : R.m.W.length = D1.length := hTT; have := T2'.out; omega)
  rintro e w5 ⟨F1, f1, G1, g1, rfl, hla, hlb, hk5, hx5⟩
  have HO1 := Lib.hid (ob_new f1 g1 hla hlb)
  have hx6 := hx5.trans (Ext.alloc w5 (.cells (oC R.ls.length R.m.d R.er (.slice F1 R.m.W.length f1) (.slice G1 (tl true R.ls).length g1)) 31))
  have HBX := Lib.hid (HBX2.out.ext hx6); have HXZ := Lib.hid (HX2.out.trans hx6)
  have HMW := Lib.hid (HXZ.out.lies HML.out)
  clear hla hlb hk5 hx5 x0 x1 x2 HBX2 HX2 hx6 HML hlen hTT
  go_upto_region 5 with fail
  change Code.wp _ _ _ _ (w5.alloc (.cells (oC R.ls.length R.m.d R.er (.slice F1 R.m.W.length f1) (.slice G1 (tl true R.ls).length g1)) 31))
  generalize w5.alloc (.cells (oC R.ls.length R.m.d R.er (.slice F1 R.m.W.length f1) (.slice G1 (tl true R.ls).length g1)) 31) = wz at *
  generalize w5.heap.size = q5 at *
  have hEX : ∀ (A9 : Option Addr) (c9 : Nat) (w : World), Ext wz w → Lies w A9 (X.map (.int .u32)) → Calls Tryd.prog 10 #[.slice B1 C1.length d1, .slice B2 D1.length d2, .slice A9 X.length c9, .int .i64 200] w (OutEnd (runV 200 zS (m0 C1 D1 X)) true w) := fun A9 c9 w hx hl =>
    exec B1 d1 C1 B2 d2 D1 A9 c9 X 200 200 200 w (hx.lies HBX.out.la) (hx.lies HBX.out.lb) hl HK.out.1 HK.out.2.1 HK.out.2.2.1 HK.out.2.2.2.1 HFX.out T2'.out (by have := HLX.out; omega) (by decide) (by decide) (by decide) (HT.out.below (HXZ.out.trans hx))
  generalize runV 200 zS (m0 C1 D1 X) = R2 at *
  have HEX := Lib.hid hEX; have H51 := Lib.hid h51; have HEXT := Lib.hid hext
  clear hEX h51 hext
  go_cut [6] (fun v6 wx => ∃ gp F2 f2 G2 g2, v6 = .pointer (some ⟨gp, 0, none⟩) ∧ Hid (Ob gp R2 true F2 f2 G2 g2 wx ∧ Ext wz wx))
  case first =>
    obtain ⟨w0, hw0⟩ : ∃ w0, wz.drew = w0 := ⟨_, rfl⟩
    have HX := Lib.hid (show Ext wz w0 from hw0 ▸ Ext.drew wz)
    have hS0 := KT.of HBX.out HX.out
    refine wp_region_noPanic ?_
    refine wp_region_held_drew (S := fun w' => KT wz W.heap.size (.slice B1 C1.length d1) (.slice B2 D1.length d2) (.slice B3 T1.length d3) w') (by kernel_rfl) (KT.of HBX.out (Ext.drew wz)) (fun hH => ?_)
    rw [hw0]
    clear hw0 hH
    refine wpAnyH_take (i := 0) (v := ?_) rfl (by kernel_rfl) (by kernel_rfl) (by kernel_rfl) (fun _ _ _ h => h) (Or.inl ⟨by rfl, ?_⟩) hS0 ?_
    rotate_left
    · (intro w hSw; (try dsimp only at hSw); go_simp; try with_reducible rfl)
    (try simp only [Act.put, List.getElem_toArray, List.getElem_cons_succ, List.getElem_cons_zero, List.setIfInBounds_toArray, List.set_cons_zero, List.set_cons_succ])
    refine wpAnyH_take (i := 1) (v := ?_) rfl (by kernel_rfl) (by kernel_rfl) (by kernel_rfl) (fun _ _ _ h => h) (Or.inl ⟨by rfl, ?_⟩) hS0 ?_
    rotate_left
    · (intro w hSw; (try dsimp only at hSw); go_simp; try with_reducible rfl)
    (try simp only [Act.put, List.getElem_toArray, List.getElem_cons_succ, List.getElem_cons_zero, List.setIfInBounds_toArray, List.set_cons_zero, List.set_cons_succ])
    refine wpAnyH_take (i := 2) (v := ?_) rfl (by kernel_rfl) (by kernel_rfl) (by kernel_rfl) (fun _ _ _ h => h) (Or.inl ⟨by rfl, ?_⟩) hS0 ?_
    rotate_left
    · (intro w hSw; (try dsimp only at hSw); go_simp; try with_reducible rfl)
    (try simp only [Act.put, List.getElem_toArray, List.getElem_cons_succ, List.getElem_cons_zero, List.setIfInBounds_toArray, List.set_cons_zero, List.set_cons_succ])
    refine wpAnyH_take (i := 3) (v := ?_) rfl (by kernel_rfl) (by kernel_rfl) (by kernel_rfl) (fun _ _ _ h => h) (Or.inl ⟨by rfl, ?_⟩) hS0 ?_
    rotate_left
    · (intro w hSw; (try dsimp only at hSw); go_simp; try with_reducible rfl)
    (try simp only [Act.put, List.getElem_toArray, List.getElem_cons_succ, List.getElem_cons_zero, List.setIfInBounds_toArray, List.set_cons_zero, List.set_cons_succ])
    refine wpAnyH_take (i := 5) (v := ?_) rfl (by kernel_rfl) (by kernel_rfl) (by kernel_rfl) (fun _ _ _ h => h) (Or.inl ⟨by rfl, ?_⟩) hS0 ?_
    rotate_left
    · (intro w hSw; (try dsimp only at hSw); go_simp; try with_reducible rfl)
    (try simp only [Act.put, List.getElem_toArray, List.getElem_cons_succ, List.getElem_cons_zero, List.setIfInBounds_toArray, List.set_cons_zero, List.set_cons_succ])
    refine wpAnyH_take (i := 6) (v := ?_) rfl (by kernel_rfl) (by kernel_rfl) (by kernel_rfl) (fun _ _ _ h => h) (Or.inl ⟨by rfl, ?_⟩) hS0 ?_
    rotate_left
    · (intro w hSw; (try dsimp only at hSw); go_simp; try with_reducible rfl)
    (try simp only [Act.put, List.getElem_toArray, List.getElem_cons_succ, List.getElem_cons_zero, List.setIfInBounds_toArray, List.set_cons_zero, List.set_cons_succ])
    refine wpAnyH_take (i := 8) (v := ?_) rfl (by kernel_rfl) (by kernel_rfl) (by kernel_rfl) (fun _ _ _ h => h) (Or.inl ⟨by rfl, ?_⟩) hS0 ?_
    rotate_left
    · (intro w hSw; (try dsimp only at hSw); go_simp; try with_reducible rfl)
    (try simp only [Act.put, List.getElem_toArray, List.getElem_cons_succ, List.getElem_cons_zero, List.setIfInBounds_toArray, List.set_cons_zero, List.set_cons_succ])
    clear hS0
    refine wpAnyH_ready (rs := [4, 11]) (by kernel_rfl) (by simp) (AllReadyH.cons rfl (fun K hK => ?_) (AllReadyH.cons rfl (fun K hK => ?_) AllReadyH.nil))
    · go_simp
      have hx := Ext.alloc w0 (.cells #[] 36)
      have ho := own_empty w0 (Below.size HX.out) 36 1
      refine hK.out _ _ (KT.of HBX.out (HX.out.trans hx)) (fun hH => ?_)
      clear hK K hH
      (try simp only [Act.put, List.getElem_toArray, List.getElem_cons_succ, List.getElem_cons_zero, List.setIfInBounds_toArray, List.set_cons_zero, List.set_cons_succ])
      obtain ⟨w1, hw⟩ : ∃ w1, w0.alloc (.cells #[] 36) = w1 := ⟨_, rfl⟩
      rw [hw] at hx ho
      have HX := Lib.hid (HX.out.trans hx)
      have HO := Lib.hid ho
      rw [hw]
      clear hw hx ho
      generalize w0.heap.size = gl at *
      refine wpAnyH_ready (rs := [7, 11]) (by kernel_rfl) (by simp) (AllReadyH.cons rfl (fun K hK => ?_) (AllReadyH.cons rfl (fun K hK => ?_) AllReadyH.nil))
      · refine step_fresh rfl (.tmp 25) (.tmp 27) 23 rfl wz.heap.size 36 j0 (.int .u32 0) 1 4 Tryd.underlying23 HJ.out HY0.out HY1.out HY2.out rfl (by decide) (.slice (some ⟨gl, 0, none⟩) 0 0) 0 [] (by simp [Act.eval]) HO.out B3 T1.length d3 (T1.map (.int .u32)) (by simp [Act.eval]) (by rw [List.length_map, Nat.mul_one]) (HX.out.lies HBX.out.lc) (ints_one _ _) (by unfold maxLen; have := T3'.out; omega) (by have := T3'.out; omega) (Below.size HX.out) ?_
        intro A7 c7 w2 h1 h2 h3 h4
        simp only [Nat.zero_add, List.nil_append] at h1 h3
        have hx := grown_ext HX.out h4 (own_block HO.out)
        have HX := Lib.hid hx
        have HO := Lib.hid h3
        rw [Nat.zero_add]
        clear h1 h2 h3 h4 hx
        refine hK.out _ _ (KT.of HBX.out HX.out) (fun hH => ?_)
        clear hK K hH
        (try simp only [Act.put, List.getElem_toArray, List.getElem_cons_succ, List.getElem_cons_zero, List.setIfInBounds_toArray, List.set_cons_zero, List.set_cons_succ])
        refine wpAnyH_ready (rs := [9, 11]) (by kernel_rfl) (by simp) (AllReadyH.cons rfl (fun K hK => ?_) (AllReadyH.cons rfl (fun K hK => ?_) AllReadyH.nil))
        · refine step_fresh rfl (.tmp 28) (.tmp 29) 23 rfl wz.heap.size 36 j0 (.int .u32 0) 1 4 Tryd.underlying23 HJ.out HY0.out HY1.out HY2.out rfl (by decide) (.slice A7 T1.length c7) T1.length (T1.map (.int .u32)) (by simp [Act.eval]) HO.out AM M1.length cM (M1.map (.int .u32)) (by simp [Act.eval]) (by rw [List.length_map, Nat.mul_one]) (HX.out.lies HMW.out) (ints_one _ _) (by unfold maxLen; have := L1.out; have := T3'.out; omega) (by have := L1.out; have := T3'.out; omega) (Below.size HX.out) ?_
          intro A9 c9 w3 h1 h2 h3 h4
          rw [HXO.out] at h1 h3 ⊢
          rw [← List.map_append, ← HXE.out] at h3
          have hx := grown_ext HX.out h4 (own_block HO.out)
          have HX := Lib.hid hx
          have HL := Lib.hid (lies_own h3)
          clear h1 h2 h3 h4 hx HO
          refine hK.out _ _ (KT.of HBX.out HX.out) (fun hH => ?_)
          clear hK K hH
          (try simp only [Act.put, List.getElem_toArray, List.getElem_cons_succ, List.getElem_cons_zero, List.setIfInBounds_toArray, List.set_cons_zero, List.set_cons_succ])
          refine wpAnyH_ready (rs := [10, 11]) (by kernel_rfl) (by simp) (AllReadyH.cons rfl (fun K hK => ?_) (AllReadyH.cons rfl (fun K hK => ?_) AllReadyH.nil))
          · go_simp
            go_at_call 10; refine (HEX.out A9 c9 _ HX.out HL.out).mono ?_
            rintro e w4 ⟨F2, f2, G2, g2, rfl, hla, hlb, hk, hx⟩
            have HX := Lib.hid (HX.out.trans hx)
            have HB := Lib.hid (Lo.mk hla.lies hlb.lies)
            clear hla hlb hk hx
            go_wp2_with fail
            refine hK.out _ _ (KT.of HBX.out HX.out) (fun hH => ?_)
            clear hK K hH
            (try simp only [Act.put, List.getElem_toArray, List.getElem_cons_succ, List.getElem_cons_zero, List.setIfInBounds_toArray, List.set_cons_zero, List.set_cons_succ])
            refine wpAnyH_ready (rs := [11]) (by kernel_rfl) (by simp) (AllReadyH.cons rfl (fun K hK => ?_) AllReadyH.nil)
            · go_simp
              have hx := Ext.alloc w4 (.cells z5 31)
              have hn := Bk.new HX.out
              refine hK.out _ _ (KT.of HBX.out (HX.out.trans hx)) (fun hH => ?_)
              clear hK K hH
              (try simp only [Act.put, List.getElem_toArray, List.getElem_cons_succ, List.getElem_cons_zero, List.setIfInBounds_toArray, List.set_cons_zero, List.set_cons_succ])
              have HB := Lib.hid (HB.out.ext hx)
              obtain ⟨w5, hw⟩ : ∃ w5, w4.alloc (.cells z5 31) = w5 := ⟨_, rfl⟩
              rw [hw] at hx hn HB
              have HX := Lib.hid (HX.out.trans hx)
              have HP := Lib.hid hn
              rw [show w4.alloc (.cells #[.int .i64 0, .int .i64 0, .int .i64 0, .slice none 0 0, .slice none 0 0] 31) = w5 from hw]
              clear hw hx hn
              generalize w4.heap.size = gp at *
              have b0 := HP.out.b.cell 0; have b1 := HP.out.b.cell 1; have b2 := HP.out.b.cell 2; have b3 := HP.out.b.cell 3; have b4 := HP.out.b.cell 4
              have k0 := HP.out.b.frozen 0; have k1 := HP.out.b.frozen 1; have k2 := HP.out.b.frozen 2; have k3 := HP.out.b.frozen 3; have k4 := HP.out.b.frozen 4
              simp at b0 b1 b2 b3 b4
              refine wpAnyH_ready (rs := [12]) (by kernel_rfl) (by simp) (AllReadyH.cons rfl (fun K hK => ?_) AllReadyH.nil)
              go_simp
              refine hK.out _ _ (KT.of HBX.out (ext_stow HX.out HP.out.lo _ _ _ _ _)) (fun hH => ?_)
              clear hK K hH b0 b1 b2 b3 b4 k0 k1 k2 k3 k4
              (try simp only [Act.put, List.getElem_toArray, List.getElem_cons_succ, List.getElem_cons_zero, List.setIfInBounds_toArray, List.set_cons_zero, List.set_cons_succ])
              refine wpAnyH_done (by kernel_rfl) ?_ _
              refine NoPanic.normal ?_
              go_wp2_with fail
              go_meet
              case rel => exact ⟨gp, F2, f2, G2, g2, rfl, Lib.hid ⟨ob_put f2 g2 HP.out.b HB.out, ext_stow HX.out HP.out.lo _ _ _ _ _⟩⟩
          · go_simp
            have hx := Ext.alloc w3 (.cells z5 31)
            have hn := Bk.new HX.out
            refine hK.out _ _ (KT.of HBX.out (HX.out.trans hx)) (fun hH => ?_)
            clear hK K hH
            (try simp only [Act.put, List.getElem_toArray, List.getElem_cons_succ, List.getElem_cons_zero, List.setIfInBounds_toArray, List.set_cons_zero, List.set_cons_succ])
            have HL := Lib.hid (hx.lies HL.out)
            obtain ⟨w4, hw⟩ : ∃ w4, w3.alloc (.cells z5 31) = w4 := ⟨_, rfl⟩
            rw [hw] at hx hn HL
            have HX := Lib.hid (HX.out.trans hx)
            have HP := Lib.hid hn
            rw [show w3.alloc (.cells #[.int .i64 0, .int .i64 0, .int .i64 0, .slice none 0 0, .slice none 0 0] 31) = w4 from hw]
            clear hw hx hn
            generalize w3.heap.size = gp at *
            refine wpAnyH_ready (rs := [10]) (by kernel_rfl) (by simp) (AllReadyH.cons rfl (fun K hK => ?_) AllReadyH.nil)
            · go_simp
              go_at_call 10; refine (HEX.out A9 c9 _ HX.out HL.out).mono ?_
              rintro e w5 ⟨F2, f2, G2, g2, rfl, hla, hlb, hk, hx⟩
              have HX := Lib.hid (HX.out.trans hx)
              have HB := Lib.hid (Lo.mk hla.lies hlb.lies)
              have HP := Lib.hid (HP.out.ext hx)
              clear hla hlb hk hx
              go_wp2_with fail
              refine hK.out _ _ (KT.of HBX.out HX.out) (fun hH => ?_)
              clear hK K hH
              (try simp only [Act.put, List.getElem_toArray, List.getElem_cons_succ, List.getElem_cons_zero, List.setIfInBounds_toArray, List.set_cons_zero, List.set_cons_succ])
              have b0 := HP.out.b.cell 0; have b1 := HP.out.b.cell 1; have b2 := HP.out.b.cell 2; have b3 := HP.out.b.cell 3; have b4 := HP.out.b.cell 4
              have k0 := HP.out.b.frozen 0; have k1 := HP.out.b.frozen 1; have k2 := HP.out.b.frozen 2; have k3 := HP.out.b.frozen 3; have k4 := HP.out.b.frozen 4
              simp at b0 b1 b2 b3 b4
              refine wpAnyH_ready (rs := [12]) (by kernel_rfl) (by simp) (AllReadyH.cons rfl (fun K hK => ?_) AllReadyH.nil)
              go_simp
              refine hK.out _ _ (KT.of HBX.out (ext_stow HX.out HP.out.lo _ _ _ _ _)) (fun hH => ?_)
              clear hK K hH b0 b1 b2 b3 b4 k0 k1 k2 k3 k4
              (try simp only [Act.put, List.getElem_toArray, List.getElem_cons_succ, List.getElem_cons_zero, List.setIfInBounds_toArray, List.set_cons_zero, List.set_cons_succ])
              refine wpAnyH_done (by kernel_rfl) ?_ _
              refine NoPanic.normal ?_
              go_wp2_with fail
              go_meet
              case rel => exact ⟨gp, F2, f2, G2, g2, rfl, Lib.hid ⟨ob_put f2 g2 HP.out.b HB.out, ext_stow HX.out HP.out.lo _ _ _ _ _⟩⟩
        · go_simp
          have hx := Ext.alloc w2 (.cells z5 31)
          have hn := Bk.new HX.out
          refine hK.out _ _ (KT.of HBX.out (HX.out.trans hx)) (fun hH => ?_)
          clear hK K hH
          (try simp only [Act.put, List.getElem_toArray, List.getElem_cons_succ, List.getElem_cons_zero, List.setIfInBounds_toArray, List.set_cons_zero, List.set_cons_succ])
          have HO := Lib.hid (World.ownsRow.alloc HO.out (.cells z5 31))
          obtain ⟨w3, hw⟩ : ∃ w3, w2.alloc (.cells z5 31) = w3 := ⟨_, rfl⟩
          rw [hw] at hx hn HO
          have HX := Lib.hid (HX.out.trans hx)
          have HP := Lib.hid hn
          rw [show w2.alloc (.cells #[.int .i64 0, .int .i64 0, .int .i64 0, .slice none 0 0, .slice none 0 0] 31) = w3 from hw]
          clear hw hx hn
          generalize w2.heap.size = gp at *
          refine wpAnyH_ready (rs := [9]) (by kernel_rfl) (by simp) (AllReadyH.cons rfl (fun K hK => ?_) AllReadyH.nil)
          · refine step_fresh rfl (.tmp 28) (.tmp 29) 23 rfl wz.heap.size 36 j0 (.int .u32 0) 1 4 Tryd.underlying23 HJ.out HY0.out HY1.out HY2.out rfl (by decide) (.slice A7 T1.length c7) T1.length (T1.map (.int .u32)) (by simp [Act.eval]) HO.out AM M1.length cM (M1.map (.int .u32)) (by simp [Act.eval]) (by rw [List.length_map, Nat.mul_one]) (HX.out.lies HMW.out) (ints_one _ _) (by unfold maxLen; have := L1.out; have := T3'.out; omega) (by have := L1.out; have := T3'.out; omega) (Below.size HX.out) ?_
            intro A9 c9 w4 h1 h2 h3 h4
            rw [HXO.out] at h1 h3 ⊢
            rw [← List.map_append, ← HXE.out] at h3
            have hx := grown_ext HX.out h4 (own_block HO.out)
            have HP := Lib.hid (HP.out.grow h4 HO.out)
            have HX := Lib.hid hx
            have HL := Lib.hid (lies_own h3)
            clear h1 h2 h3 h4 hx HO
            refine hK.out _ _ (KT.of HBX.out HX.out) (fun hH => ?_)
            clear hK K hH
            (try simp only [Act.put, List.getElem_toArray, List.getElem_cons_succ, List.getElem_cons_zero, List.setIfInBounds_toArray, List.set_cons_zero, List.set_cons_succ])
            refine wpAnyH_ready (rs := [10]) (by kernel_rfl) (by simp) (AllReadyH.cons rfl (fun K hK => ?_) AllReadyH.nil)
            · go_simp
              go_at_call 10; refine (HEX.out A9 c9 _ HX.out HL.out).mono ?_
              rintro e w5 ⟨F2, f2, G2, g2, rfl, hla, hlb, hk, hx⟩
              have HX := Lib.hid (HX.out.trans hx)
              have HB := Lib.hid (Lo.mk hla.lies hlb.lies)
              have HP := Lib.hid (HP.out.ext hx)
              clear hla hlb hk hx
              go_wp2_with fail
              refine hK.out _ _ (KT.of HBX.out HX.out) (fun hH => ?_)
              clear hK K hH
              (try simp only [Act.put, List.getElem_toArray, List.getElem_cons_succ, List.getElem_cons_zero, List.setIfInBounds_toArray, List.set_cons_zero, List.set_cons_succ])
              have b0 := HP.out.b.cell 0; have b1 := HP.out.b.cell 1; have b2 := HP.out.b.cell 2; have b3 := HP.out.b.cell 3; have b4 := HP.out.b.cell 4
              have k0 := HP.out.b.frozen 0; have k1 := HP.out.b.frozen 1; have k2 := HP.out.b.frozen 2; have k3 := HP.out.b.frozen 3; have k4 := HP.out.b.frozen 4
              simp at b0 b1 b2 b3 b4
              refine wpAnyH_ready (rs := [12]) (by kernel_rfl) (by simp) (AllReadyH.cons rfl (fun K hK => ?_) AllReadyH.nil)
              go_simp
              refine hK.out _ _ (KT.of HBX.out (ext_stow HX.out HP.out.lo _ _ _ _ _)) (fun hH => ?_)
              clear hK K hH b0 b1 b2 b3 b4 k0 k1 k2 k3 k4
              (try simp only [Act.put, List.getElem_toArray, List.getElem_cons_succ, List.getElem_cons_zero, List.setIfInBounds_toArray, List.set_cons_zero, List.set_cons_succ])
              refine wpAnyH_done (by kernel_rfl) ?_ _
              refine NoPanic.normal ?_
              go_wp2_with fail
              go_meet
              case rel => exact ⟨gp, F2, f2, G2, g2, rfl, Lib.hid ⟨ob_put f2 g2 HP.out.b HB.out, ext_stow HX.out HP.out.lo _ _ _ _ _⟩⟩
      · go_simp
        have hx := Ext.alloc w1 (.cells z5 31)
        have hn := Bk.new HX.out
        refine hK.out _ _ (KT.of HBX.out (HX.out.trans hx)) (fun hH => ?_)
        clear hK K hH
        (try simp only [Act.put, List.getElem_toArray, List.getElem_cons_succ, List.getElem_cons_zero, List.setIfInBounds_toArray, List.set_cons_zero, List.set_cons_succ])
        have HO := Lib.hid (World.ownsRow.alloc HO.out (.cells z5 31))
        obtain ⟨w2, hw⟩ : ∃ w2, w1.alloc (.cells z5 31) = w2 := ⟨_, rfl⟩
        rw [hw] at hx hn HO
        have HX := Lib.hid (HX.out.trans hx)
        have HP := Lib.hid hn
        rw [show w1.alloc (.cells #[.int .i64 0, .int .i64 0, .int .i64 0, .slice none 0 0, .slice none 0 0] 31) = w2 from hw]
        clear hw hx hn
        generalize w1.heap.size = gp at *
        refine wpAnyH_ready (rs := [7]) (by kernel_rfl) (by simp) (AllReadyH.cons rfl (fun K hK => ?_) AllReadyH.nil)
        · refine step_fresh rfl (.tmp 25) (.tmp 27) 23 rfl wz.heap.size 36 j0 (.int .u32 0) 1 4 Tryd.underlying23 HJ.out HY0.out HY1.out HY2.out rfl (by decide) (.slice (some ⟨gl, 0, none⟩) 0 0) 0 [] (by simp [Act.eval]) HO.out B3 T1.length d3 (T1.map (.int .u32)) (by simp [Act.eval]) (by rw [List.length_map, Nat.mul_one]) (HX.out.lies HBX.out.lc) (ints_one _ _) (by unfold maxLen; have := T3'.out; omega) (by have := T3'.out; omega) (Below.size HX.out) ?_
          intro A7 c7 w3 h1 h2 h3 h4
          simp only [Nat.zero_add, List.nil_append] at h1 h3
          have hx := grown_ext HX.out h4 (own_block HO.out)
          have HP := Lib.hid (HP.out.grow h4 HO.out)
          have HX := Lib.hid hx
          have HO := Lib.hid h3
          rw [Nat.zero_add]
          clear h1 h2 h3 h4 hx
          refine hK.out _ _ (KT.of HBX.out HX.out) (fun hH => ?_)
          clear hK K hH
          (try simp only [Act.put, List.getElem_toArray, List.getElem_cons_succ, List.getElem_cons_zero, List.setIfInBounds_toArray, List.set_cons_zero, List.set_cons_succ])
          refine wpAnyH_ready (rs := [9]) (by kernel_rfl) (by simp) (AllReadyH.cons rfl (fun K hK => ?_) AllReadyH.nil)
          · refine step_fresh rfl (.tmp 28) (.tmp 29) 23 rfl wz.heap.size 36 j0 (.int .u32 0) 1 4 Tryd.underlying23 HJ.out HY0.out HY1.out HY2.out rfl (by decide) (.slice A7 T1.length c7) T1.length (T1.map (.int .u32)) (by simp [Act.eval]) HO.out AM M1.length cM (M1.map (.int .u32)) (by simp [Act.eval]) (by rw [List.length_map, Nat.mul_one]) (HX.out.lies HMW.out) (ints_one _ _) (by unfold maxLen; have := L1.out; have := T3'.out; omega) (by have := L1.out; have := T3'.out; omega) (Below.size HX.out) ?_
            intro A9 c9 w4 h1 h2 h3 h4
            rw [HXO.out] at h1 h3 ⊢
            rw [← List.map_append, ← HXE.out] at h3
            have hx := grown_ext HX.out h4 (own_block HO.out)
            have HP := Lib.hid (HP.out.grow h4 HO.out)
            have HX := Lib.hid hx
            have HL := Lib.hid (lies_own h3)
            clear h1 h2 h3 h4 hx HO
            refine hK.out _ _ (KT.of HBX.out HX.out) (fun hH => ?_)
            clear hK K hH
            (try simp only [Act.put, List.getElem_toArray, List.getElem_cons_succ, List.getElem_cons_zero, List.setIfInBounds_toArray, List.set_cons_zero, List.set_cons_succ])
            refine wpAnyH_ready (rs := [10]) (by kernel_rfl) (by simp) (AllReadyH.cons rfl (fun K hK => ?_) AllReadyH.nil)
            · go_simp
              go_at_call 10; refine (HEX.out A9 c9 _ HX.out HL.out).mono ?_
              rintro e w5 ⟨F2, f2, G2, g2, rfl, hla, hlb, hk, hx⟩
              have HX := Lib.hid (HX.out.trans hx)
              have HB := Lib.hid (Lo.mk hla.lies hlb.lies)
              have HP := Lib.hid (HP.out.ext hx)
              clear hla hlb hk hx
              go_wp2_with fail
              refine hK.out _ _ (KT.of HBX.out HX.out) (fun hH => ?_)
              clear hK K hH
              (try simp only [Act.put, List.getElem_toArray, List.getElem_cons_succ, List.getElem_cons_zero, List.setIfInBounds_toArray, List.set_cons_zero, List.set_cons_succ])
              have b0 := HP.out.b.cell 0; have b1 := HP.out.b.cell 1; have b2 := HP.out.b.cell 2; have b3 := HP.out.b.cell 3; have b4 := HP.out.b.cell 4
              have k0 := HP.out.b.frozen 0; have k1 := HP.out.b.frozen 1; have k2 := HP.out.b.frozen 2; have k3 := HP.out.b.frozen 3; have k4 := HP.out.b.frozen 4
              simp at b0 b1 b2 b3 b4
              refine wpAnyH_ready (rs := [12]) (by kernel_rfl) (by simp) (AllReadyH.cons rfl (fun K hK => ?_) AllReadyH.nil)
              go_simp
              refine hK.out _ _ (KT.of HBX.out (ext_stow HX.out HP.out.lo _ _ _ _ _)) (fun hH => ?_)
              clear hK K hH b0 b1 b2 b3 b4 k0 k1 k2 k3 k4
              (try simp only [Act.put, List.getElem_toArray, List.getElem_cons_succ, List.getElem_cons_zero, List.setIfInBounds_toArray, List.set_cons_zero, List.set_cons_succ])
              refine wpAnyH_done (by kernel_rfl) ?_ _
              refine NoPanic.normal ?_
              go_wp2_with fail
              go_meet
              case rel => exact ⟨gp, F2, f2, G2, g2, rfl, Lib.hid ⟨ob_put f2 g2 HP.out.b HB.out, ext_stow HX.out HP.out.lo _ _ _ _ _⟩⟩
    · go_simp
      have hx := Ext.alloc w0 (.cells z5 31)
      have hn := Bk.new HX.out
      refine hK.out _ _ (KT.of HBX.out (HX.out.trans hx)) (fun hH => ?_)
      clear hK K hH
      (try simp only [Act.put, List.getElem_toArray, List.getElem_cons_succ, List.getElem_cons_zero, List.setIfInBounds_toArray, List.set_cons_zero, List.set_cons_succ])
      obtain ⟨w1, hw⟩ : ∃ w1, w0.alloc (.cells z5 31) = w1 := ⟨_, rfl⟩
      rw [hw] at hx hn
      have HX := Lib.hid (HX.out.trans hx)
      have HP := Lib.hid hn
      rw [show w0.alloc (.cells #[.int .i64 0, .int .i64 0, .int .i64 0, .slice none 0 0, .slice none 0 0] 31) = w1 from hw]
      clear hw hx hn
      generalize w0.heap.size = gp at *
      refine wpAnyH_ready (rs := [4]) (by kernel_rfl) (by simp) (AllReadyH.cons rfl (fun K hK => ?_) AllReadyH.nil)
      · go_simp
        have hx := Ext.alloc w1 (.cells #[] 36)
        have ho := own_empty w1 (Below.size HX.out) 36 1
        refine hK.out _ _ (KT.of HBX.out (HX.out.trans hx)) (fun hH => ?_)
        clear hK K hH
        (try simp only [Act.put, List.getElem_toArray, List.getElem_cons_succ, List.getElem_cons_zero, List.setIfInBounds_toArray, List.set_cons_zero, List.set_cons_succ])
        have HP := Lib.hid (HP.out.ext hx)
        obtain ⟨w2, hw⟩ : ∃ w2, w1.alloc (.cells #[] 36) = w2 := ⟨_, rfl⟩
        rw [hw] at hx ho HP
        have HX := Lib.hid (HX.out.trans hx)
        have HO := Lib.hid ho
        rw [hw]
        clear hw hx ho
        generalize w1.heap.size = gl at *
        refine wpAnyH_ready (rs := [7]) (by kernel_rfl) (by simp) (AllReadyH.cons rfl (fun K hK => ?_) AllReadyH.nil)
        · refine step_fresh rfl (.tmp 25) (.tmp 27) 23 rfl wz.heap.size 36 j0 (.int .u32 0) 1 4 Tryd.underlying23 HJ.out HY0.out HY1.out HY2.out rfl (by decide) (.slice (some ⟨gl, 0, none⟩) 0 0) 0 [] (by simp [Act.eval]) HO.out B3 T1.length d3 (T1.map (.int .u32)) (by simp [Act.eval]) (by rw [List.length_map, Nat.mul_one]) (HX.out.lies HBX.out.lc) (ints_one _ _) (by unfold maxLen; have := T3'.out; omega) (by have := T3'.out; omega) (Below.size HX.out) ?_
          intro A7 c7 w3 h1 h2 h3 h4
          simp only [Nat.zero_add, List.nil_append] at h1 h3
          have hx := grown_ext HX.out h4 (own_block HO.out)
          have HP := Lib.hid (HP.out.grow h4 HO.out)
          have HX := Lib.hid hx
          have HO := Lib.hid h3
          rw [Nat.zero_add]
          clear h1 h2 h3 h4 hx
          refine hK.out _ _ (KT.of HBX.out HX.out) (fun hH => ?_)
          clear hK K hH
          (try simp only [Act.put, List.getElem_toArray, List.getElem_cons_succ, List.getElem_cons_zero, List.setIfInBounds_toArray, List.set_cons_zero, List.set_cons_succ])
          refine wpAnyH_ready (rs := [9]) (by kernel_rfl) (by simp) (AllReadyH.cons rfl (fun K hK => ?_) AllReadyH.nil)
          · refine step_fresh rfl (.tmp 28) (.tmp 29) 23 rfl wz.heap.size 36 j0 (.int .u32 0) 1 4 Tryd.underlying23 HJ.out HY0.out HY1.out HY2.out rfl (by decide) (.slice A7 T1.length c7) T1.length (T1.map (.int .u32)) (by simp [Act.eval]) HO.out AM M1.length cM (M1.map (.int .u32)) (by simp [Act.eval]) (by rw [List.length_map, Nat.mul_one]) (HX.out.lies HMW.out) (ints_one _ _) (by unfold maxLen; have := L1.out; have := T3'.out; omega) (by have := L1.out; have := T3'.out; omega) (Below.size HX.out) ?_
            intro A9 c9 w4 h1 h2 h3 h4
            rw [HXO.out] at h1 h3 ⊢
            rw [← List.map_append, ← HXE.out] at h3
            have hx := grown_ext HX.out h4 (own_block HO.out)
            have HP := Lib.hid (HP.out.grow h4 HO.out)
            have HX := Lib.hid hx
            have HL := Lib.hid (lies_own h3)
            clear h1 h2 h3 h4 hx HO
            refine hK.out _ _ (KT.of HBX.out HX.out) (fun hH => ?_)
            clear hK K hH
            (try simp only [Act.put, List.getElem_toArray, List.getElem_cons_succ, List.getElem_cons_zero, List.setIfInBounds_toArray, List.set_cons_zero, List.set_cons_succ])
            refine wpAnyH_ready (rs := [10]) (by kernel_rfl) (by simp) (AllReadyH.cons rfl (fun K hK => ?_) AllReadyH.nil)
            · go_simp
              go_at_call 10; refine (HEX.out A9 c9 _ HX.out HL.out).mono ?_
              rintro e w5 ⟨F2, f2, G2, g2, rfl, hla, hlb, hk, hx⟩
              have HX := Lib.hid (HX.out.trans hx)
              have HB := Lib.hid (Lo.mk hla.lies hlb.lies)
              have HP := Lib.hid (HP.out.ext hx)
              clear hla hlb hk hx
              go_wp2_with fail
              refine hK.out _ _ (KT.of HBX.out HX.out) (fun hH => ?_)
              clear hK K hH
              (try simp only [Act.put, List.getElem_toArray, List.getElem_cons_succ, List.getElem_cons_zero, List.setIfInBounds_toArray, List.set_cons_zero, List.set_cons_succ])
              have b0 := HP.out.b.cell 0; have b1 := HP.out.b.cell 1; have b2 := HP.out.b.cell 2; have b3 := HP.out.b.cell 3; have b4 := HP.out.b.cell 4
              have k0 := HP.out.b.frozen 0; have k1 := HP.out.b.frozen 1; have k2 := HP.out.b.frozen 2; have k3 := HP.out.b.frozen 3; have k4 := HP.out.b.frozen 4
              simp at b0 b1 b2 b3 b4
              refine wpAnyH_ready (rs := [12]) (by kernel_rfl) (by simp) (AllReadyH.cons rfl (fun K hK => ?_) AllReadyH.nil)
              go_simp
              refine hK.out _ _ (KT.of HBX.out (ext_stow HX.out HP.out.lo _ _ _ _ _)) (fun hH => ?_)
              clear hK K hH b0 b1 b2 b3 b4 k0 k1 k2 k3 k4
              (try simp only [Act.put, List.getElem_toArray, List.getElem_cons_succ, List.getElem_cons_zero, List.setIfInBounds_toArray, List.set_cons_zero, List.set_cons_succ])
              refine wpAnyH_done (by kernel_rfl) ?_ _
              refine NoPanic.normal ?_
              go_wp2_with fail
              go_meet
              case rel => exact ⟨gp, F2, f2, G2, g2, rfl, Lib.hid ⟨ob_put f2 g2 HP.out.b HB.out, ext_stow HX.out HP.out.lo _ _ _ _ _⟩⟩
  case rest =>
  obtain ⟨gp, F2, f2, G2, g2, rfl, HOB⟩ := hcut
  clear HEX HBX HMW HF HFX HK
  have HOA := Lib.hid (HO1.out.ext HOB.out.2)
  have HX4 := Lib.hid (HXZ.out.trans HOB.out.2)
  have x2 := HOA.out.b.cell 2
  simp at x2
  by_cases he : R.er = 51
  · have hge : R.ls.length ≤ R2.ls.length := H51.out
    have x0 := HOA.out.b.cell 0; have y0 := HOB.out.1.b.cell 0
    simp at x0 y0
    rw [he] at x2
    generalize R.ls.length = na at *
    generalize R2.ls.length = nb at *
    have hge2 : (na : Int) ≤ (nb : Int) := by omega
    clear H51 HEXT he
    go_wp2_with fail
    refine (lives wc (HT.out.below HX4.out)).mono ?_
    rintro en w9 ⟨rfl, hb⟩
    have HX9 := Lib.hid (HX4.out.trans (show Ext wc w9 from hb))
    clear hb x0 y0 x2
    go_wp2_with fail
    go_ret
    exact ⟨rfl, HX9.out⟩
  · have hne : (R.er == 51) = false := by simpa using he
    have e := HEXT.out he
    have HOC := Lib.hid (show Blk wc gp 31 (oC R.ls.length R.m.d R.er (.slice F2 R.m.W.length f2) (.slice G2 (tl true R.ls).length g2)) ∧ Lies wc F2 (R.m.W.map (.int .u32)) ∧ Lies wc G2 ((tl true R.ls).flatMap lcl) from by
      have h := HOB.out.1
      rw [e] at h
      exact ⟨h.b, h.la, h.lb⟩)
    clear H51 HEXT he e HOB
    have x0 := HOA.out.b.cell 0; have x1 := HOA.out.b.cell 1; have x3 := HOA.out.b.cell 3; have x4 := HOA.out.b.cell 4
    have y0 := HOC.out.1.cell 0; have y1 := HOC.out.1.cell 1; have y2 := HOC.out.1.cell 2; have y3 := HOC.out.1.cell 3; have y4 := HOC.out.1.cell 4
    simp at x0 x1 x3 x4 y0 y1 y2 y3 y4
    go_wp2_with fail
    refine (sameO R.ls.length R.m.d R.er F1 F2 G1 G2 f1 f2 g1 g2 R.m.W (tl true R.ls) wc HOA.out.la HOC.out.2.1 HOA.out.lb HOC.out.2.2 HD9.out HLN.out).mono ?_
    rintro en w8 ⟨rfl, hb⟩
    have HX8 := Lib.hid (HX4.out.trans hb)
    clear hb x0 x1 x2 x3 x4 y0 y1 y2 y3 y4
    go_wp2_with fail
    refine (lives w8 (HT.out.below HX8.out)).mono ?_
    rintro en w9 ⟨rfl, hb⟩
    have HX9 := Lib.hid (HX8.out.trans (show Ext w8 w9 from hb))
    clear hb
    go_wp2_with fail
    go_ret
    exact ⟨rfl, HX9.out⟩
end Go.Proofs.YtkafmpdjpjgkgaaDoor.Rn
