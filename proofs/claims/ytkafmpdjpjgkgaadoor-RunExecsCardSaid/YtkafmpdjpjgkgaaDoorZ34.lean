/- DERIVED. RnSml, RnLv in one text. By an AI agent. -/
import Derived.Test.YtkafmpdjpjgkgaaDoorZ15
import Derived.Test.YtkafmpdjpjgkgaaDoorZ22
import Derived.Deep.RegionHeld3
import Derived.Deep.DeepCutAuto
import Derived.Test.YtkafmpdjpjgkgaaDoorZ26
import Derived.Test.YtkafmpdjpjgkgaaDoorZ33
/- DERIVED. The contract of the law's small. By an AI agent. -/
namespace Go.Proofs.YtkafmpdjpjgkgaaDoor.Rn
open Go.ChangeShapes Go.WideShapes Go.ChangeAt Go.RowKit Args Mm
set_option linter.unusedVariables false
set_option linter.unusedSimpArgs false
/-- A case, cut: its copies lie. -/
def SmlEnd (C D T : List Int) (W : World) (e : Ending) (w' : World) : Prop :=
  ∃ A1 c1 A2 c2 A3 c3, e = .returned (.agg #[.slice A1 C.length c1, .slice A2 D.length c2, .slice A3 T.length c3]) ∧ (C.length ≤ c1 ∧ c1 ≤ maxLen ∧ D.length ≤ c2 ∧ c2 ≤ maxLen ∧ T.length ≤ c3 ∧ c3 ≤ maxLen) ∧
    Liv W.heap.size w' A1 (C.map (.int .u16)) ∧ Liv W.heap.size w' A2 (D.map (.int .u32)) ∧ Liv W.heap.size w' A3 (T.map (.int .u32)) ∧ Ext W w'
/-- The law's boxes. -/
structure Sb (W : World) (x y z : Value) (w : World) : Prop where
  e : Ext W w
  b : Blk w W.heap.size 25 #[x, y, z]
  r : Blk w (W.heap.size + 1) 25 #[.slice none 0 0, .slice none 0 0, .slice none 0 0]
theorem Sb.new (W : World) (x y z : Value) : Sb W x y z ((W.alloc (.cells #[x, y, z] 25)).alloc (.cells #[.slice none 0 0, .slice none 0 0, .slice none 0 0] 25)) :=
  ⟨(Ext.alloc _ _).trans (Ext.alloc _ _), (Blk.new W _ _).alloc _, by have := Blk.new (W.alloc (.cells #[x, y, z] 25)) 25 #[.slice none 0 0, .slice none 0 0, .slice none 0 0]; simpa only [World.size_alloc] using this⟩
theorem cell_ext {w w' : World} (h : Ext w w') {a : Addr} {v : Value} (hc : w.cell? a = some v) : w'.cell? a = some v := (Below.cell h (World.block_lt_of_cell? w a hc)).trans hc
theorem ext_set {W w : World} (h : Ext W w) {g : Nat} (hg : W.heap.size ≤ g) (i : Nat) (v : Value) : Ext W (w.setCell ⟨g, i, none⟩ v) := Below.setCell (p := ⟨g, i, none⟩) h hg v
theorem Sb.set {W w : World} {x y z x' y' z' : Value} (h : Sb W x y z w) (i : Nat) (v : Value) (hc : (#[x, y, z] : Array Value).setIfInBounds i v = #[x', y', z']) : Sb W x' y' z' (w.setCell ⟨W.heap.size, i, none⟩ v) :=
  ⟨ext_set h.e (Nat.le_refl _) i v, hc ▸ h.b.set i v, h.r.far (p := ⟨W.heap.size, i, none⟩) (by simp) v⟩
theorem Sb.below {W w w' : World} {x y z : Value} (h : Sb W x y z w) (he : Ext w w') : Sb W x y z w' := ⟨h.e.trans he, h.b.below he h.b.lt, h.r.below he h.r.lt⟩
/-- What stays while the copies are made: the law's box as it is read, the result's box. -/
structure Kr (W w : World) : Prop where
  e : Ext W w
  r : ∃ a b c, Blk w (W.heap.size + 1) 25 #[a, b, c]
abbrev K3 (W : World) (x y z : Value) (w : World) : Prop := Kr W w ∧ w.cell? ⟨W.heap.size, 0, none⟩ = some x ∧ w.cell? ⟨W.heap.size, 1, none⟩ = some y ∧ w.cell? ⟨W.heap.size, 2, none⟩ = some z
theorem K3.of {W w : World} {x y z : Value} (h : Sb W x y z w) : K3 W x y z w := ⟨⟨h.e, _, _, _, h.r⟩, h.b.cell 0, h.b.cell 1, h.b.cell 2⟩
theorem K3.step {W w w' : World} {x y z : Value} (h : K3 W x y z w) (he : Ext w w') : K3 W x y z w' := by
  obtain ⟨⟨e, a, b, c, r⟩, h0, h1, h2⟩ := h
  exact ⟨⟨e.trans he, a, b, c, r.below he r.lt⟩, cell_ext he h0, cell_ext he h1, cell_ext he h2⟩
theorem cell_far {w : World} {g k i j : Nat} {v u : Value} (hc : w.cell? ⟨g, i, none⟩ = some v) (h : g ≠ k) : (w.setCell ⟨k, j, none⟩ u).cell? ⟨g, i, none⟩ = some v :=
  ((Upd.refl (· = k) w).setCell (p := ⟨k, j, none⟩) (fun _ => rfl) u |>.cell (p := ⟨g, i, none⟩) (World.block_lt_of_cell? w _ hc) h).trans hc
theorem K3.put {W w : World} {x y z : Value} (h : K3 W x y z w) (i : Nat) (v : Value) : K3 W x y z (w.setCell ⟨W.heap.size + 1, i, none⟩ v) := by
  obtain ⟨⟨e, a, b, c, r⟩, h0, h1, h2⟩ := h
  have hr := r.set i v
  refine ⟨⟨ext_set e (by omega) i v, ?_⟩, cell_far h0 (by omega), cell_far h1 (by omega), cell_far h2 (by omega)⟩
  match i with
  | 0 => exact ⟨_, _, _, hr⟩
  | 1 => exact ⟨_, _, _, hr⟩
  | 2 => exact ⟨_, _, _, hr⟩
  | i + 3 => exact ⟨a, b, c, hr⟩
theorem K3.big {W w : World} {x y z : Value} (h : K3 W x y z w) : W.heap.size + 1 + 1 ≤ w.heap.size := by
  obtain ⟨⟨e, a, b, c, r⟩, _⟩ := h
  exact r.lt
theorem K3.e {W w : World} {x y z : Value} (h : K3 W x y z w) : Ext W w := h.1.e
abbrev stow3 (w : World) (g : Nat) (x y z : Value) : World := ((w.setCell ⟨g, 0, none⟩ x).setCell ⟨g, 1, none⟩ y).setCell ⟨g, 2, none⟩ z
/-- The result is stored. -/
theorem sml_fin {W w1 w2 w3 : World} {x y z : Value} {C D T : List Int} {A1 A2 A3 : Option Addr} {c1 c2 c3 : Nat} (h : K3 W x y z w3) (g1 : Ext w1 w3) (g2 : Ext w2 w3)
    (l1 : Liv (W.heap.size + 1 + 1) w1 A1 (C.map (.int .u16))) (l2 : Liv (W.heap.size + 1 + 1) w2 A2 (D.map (.int .u32))) (l3 : Liv (W.heap.size + 1 + 1) w3 A3 (T.map (.int .u32)))
    (q1 : C.length ≤ c1) (r1 : c1 ≤ maxLen) (q2 : D.length ≤ c2) (r2 : c2 ≤ maxLen) (q3 : T.length ≤ c3) (r3 : c3 ≤ maxLen) :
    ∃ wf, stow3 w3 (W.heap.size + 1) (.slice A1 C.length c1) (.slice A2 D.length c2) (.slice A3 T.length c3) = wf ∧ Blk wf (W.heap.size + 1) 25 #[.slice A1 C.length c1, .slice A2 D.length c2, .slice A3 T.length c3] ∧
      SmlEnd C D T W (.returned (.agg #[.slice A1 C.length c1, .slice A2 D.length c2, .slice A3 T.length c3])) wf := by
  obtain ⟨⟨e, a, b, c, r⟩, _⟩ := h
  have hu := fun v0 v1 v2 => (((Upd.refl (· = W.heap.size + 1) w3).setCell (p := ⟨W.heap.size + 1, 0, none⟩) (fun _ => rfl) v0).setCell (p := ⟨W.heap.size + 1, 1, none⟩) (fun _ => rfl) v1).setCell (p := ⟨W.heap.size + 1, 2, none⟩) (fun _ => rfl) v2
  have hx : ∀ k, W.heap.size + 1 + 1 ≤ k → ¬ (k = W.heap.size + 1) := fun k hk => by omega
  exact ⟨_, rfl, ((r.set 0 (.slice A1 C.length c1)).set 1 (.slice A2 D.length c2)).set 2 (.slice A3 T.length c3), A1, c1, A2, c2, A3, c3, rfl, ⟨q1, r1, q2, r2, q3, r3⟩,
    ((l1.below g1).upd (hu _ _ _) hx).low (by omega), ((l2.below g2).upd (hu _ _ _) hx).low (by omega), (l3.upd (hu _ _ _) hx).low (by omega), ext_set (ext_set (ext_set e (by omega) 0 _) (by omega) 1 _) (by omega) 2 _⟩
set_option maxRecDepth 100000 in
set_option maxHeartbeats 4000000 in
theorem small (AC : Option Addr) (cC : Nat) (C : List Int) (AD : Option Addr) (cD : Nat) (D : List Int) (AT : Option Addr) (cT : Nat) (T : List Int) (W : World) (hC : Lies W AC (C.map (.int .u16))) (hD : Lies W AD (D.map (.int .u32))) (hT : Lies W AT (T.map (.int .u32)))
    (hc : C.length ≤ cC) (hcm : cC ≤ maxLen) (hd : D.length ≤ cD) (hdm : cD ≤ maxLen) (ht : T.length ≤ cT) (htm : cT ≤ maxLen) :
    Calls Tryd.prog 8 #[.agg #[.slice AC C.length cC, .slice AD D.length cD, .slice AT T.length cT]] W (SmlEnd (C.take 100) (D.take 30) (T.take 50) W) := by
  obtain ⟨i0, hi, hz0, hz1, hz2⟩ := info_parts info16
  obtain ⟨j0, hj, hy0, hy1, hy2⟩ := info_parts info32
  have l1 : (C.take 100).length ≤ 100 := by rw [List.length_take]; omega
  have l2 : (D.take 30).length ≤ 30 := by rw [List.length_take]; omega
  have l3 : (T.take 50).length ≤ 50 := by rw [List.length_take]; omega
  have k1 : (C.take 100).length ≤ C.length := by rw [List.length_take]; omega
  have k2 : (D.take 30).length ≤ D.length := by rw [List.length_take]; omega
  have k3 : (T.take 50).length ≤ T.length := by rw [List.length_take]; omega
  have e1 : C.length ≤ 100 → (C.take 100).length = C.length := fun h => by rw [List.length_take]; omega
  have e2 : 100 < C.length → (C.take 100).length = 100 := fun h => by rw [List.length_take]; omega
  have e3 : D.length ≤ 30 → (D.take 30).length = D.length := fun h => by rw [List.length_take]; omega
  have e4 : 30 < D.length → (D.take 30).length = 30 := fun h => by rw [List.length_take]; omega
  have e5 : T.length ≤ 50 → (T.take 50).length = T.length := fun h => by rw [List.length_take]; omega
  have e6 : 50 < T.length → (T.take 50).length = 50 := fun h => by rw [List.length_take]; omega
  have hx0 : Ext W (W.alloc (.cells #[.slice AC C.length cC, .slice AD D.length cD, .slice AT T.length cT] 25)) := Ext.alloc _ _
  have hcl := lies_take hC 100
  have hdl := lies_take hD 30
  have htl := lies_take hT 50
  have hca : 100 < C.length → ∃ b o, AC = some ⟨b, o, none⟩ := fun h => lies_addr hC (by omega)
  have hda : 30 < D.length → ∃ b o, AD = some ⟨b, o, none⟩ := fun h => lies_addr hD (by omega)
  have hta : 50 < T.length → ∃ b o, AT = some ⟨b, o, none⟩ := fun h => lies_addr hT (by omega)
  generalize C.take 100 = C1 at l1 k1 e1 e2 hcl ⊢
  generalize D.take 30 = D1 at l2 k2 e3 e4 hdl ⊢
  generalize T.take 50 = T1 at l3 k3 e5 e6 htl ⊢
  have HI := Lib.hid hi; have HZ0 := Lib.hid hz0; have HZ1 := Lib.hid hz1; have HZ2 := Lib.hid hz2
  have HJ := Lib.hid hj; have HY0 := Lib.hid hy0; have HY1 := Lib.hid hy1; have HY2 := Lib.hid hy2
  have HE1 := Lib.hid e1; have HE2 := Lib.hid e2; have HE3 := Lib.hid e3; have HE4 := Lib.hid e4; have HE5 := Lib.hid e5; have HE6 := Lib.hid e6
  have HCA := Lib.hid hca; have HDA := Lib.hid hda; have HTA := Lib.hid hta
  have HC := Lib.hid hcl; have HD := Lib.hid hdl; have HT := Lib.hid htl
  have L1 := Lib.hid l1; have L2 := Lib.hid l2; have L3 := Lib.hid l3; have K1 := Lib.hid k1; have K2 := Lib.hid k2; have K3 := Lib.hid k3
  have HCC := Lib.hid hc; have HCM := Lib.hid hcm; have HDD := Lib.hid hd; have HDM := Lib.hid hdm; have HTT := Lib.hid ht; have HTM := Lib.hid htm
  have HX0 := Lib.hid hx0
  have HB0 := Lib.hid (Sb.new W (.slice AC C.length cC) (.slice AD D.length cD) (.slice AT T.length cT))
  clear hi hz0 hz1 hz2 hj hy0 hy1 hy2 hC hD hT hc hcm hd hdm ht htm l1 l2 l3 k1 k2 k3 e1 e2 e3 e4 e5 e6 hx0 hcl hdl htl hca hda hta HX0
  go_enter Tryd.func8, Tryd.ntmps8
  go_upto_region 1 with fail
  generalize (W.alloc (.cells #[.slice AC C.length cC, .slice AD D.length cD, .slice AT T.length cT] 25)).alloc (.cells #[.slice none 0 0, .slice none 0 0, .slice none 0 0] 25) = w0 at *
  have c0 := HB0.out.b.cell 0
  go_upto_if 6 with fail
  go_cut [] (fun wx => Hid (Sb W (.slice AC C1.length cC) (.slice AD D.length cD) (.slice AT T.length cT) wx))
  case first =>
    have f0 := HB0.out.b.frozen 0
    by_cases hl : 100 < C.length
    · obtain ⟨b, o, rfl⟩ := HCA.out hl
      have hl2 : (100 : Int) < (C.length : Int) := by omega
      have hl3 : (100 : Int) ≤ (cC : Int) := by have := HCC.out; omega
      have E := Lib.hid (HE2.out hl)
      clear hl
      go_wp2_with fail
      go_meet
      case rel => exact Lib.hid (HB0.out.set 0 _ (by rw [E.out]; rfl))
    · have hl2 : decide ((100 : Int) < (C.length : Int)) = false := by simp; omega
      have hl5 : ¬ (100 : Int) < (C.length : Int) := by omega
      have E := Lib.hid (HE1.out (by omega))
      clear hl
      go_wp2_with fail
      go_meet
      case rel => rw [E.out]; exact HB0
  case rest =>
  have HB1 := hcut
  clear hcut c0 HB0
  have c0 := HB1.out.b.cell 1
  go_upto_if 14 with fail
  go_cut [] (fun wx => Hid (Sb W (.slice AC C1.length cC) (.slice AD D1.length cD) (.slice AT T.length cT) wx))
  case first =>
    have f0 := HB1.out.b.frozen 1
    by_cases hl : 30 < D.length
    · obtain ⟨b, o, rfl⟩ := HDA.out hl
      have hl2 : (30 : Int) < (D.length : Int) := by omega
      have hl3 : (30 : Int) ≤ (cD : Int) := by have := HDD.out; omega
      have E := Lib.hid (HE4.out hl)
      clear hl
      go_wp2_with fail
      go_meet
      case rel => exact Lib.hid (HB1.out.set 1 _ (by rw [E.out]; rfl))
    · have hl2 : decide ((30 : Int) < (D.length : Int)) = false := by simp; omega
      have hl5 : ¬ (30 : Int) < (D.length : Int) := by omega
      have E := Lib.hid (HE3.out (by omega))
      clear hl
      go_wp2_with fail
      go_meet
      case rel => rw [E.out]; exact HB1
  case rest =>
  have HB2 := hcut
  clear hcut c0 HB1
  have c0 := HB2.out.b.cell 2
  go_upto_if 22 with fail
  go_cut [] (fun wx => Hid (Sb W (.slice AC C1.length cC) (.slice AD D1.length cD) (.slice AT T1.length cT) wx))
  case first =>
    have f0 := HB2.out.b.frozen 2
    by_cases hl : 50 < T.length
    · obtain ⟨b, o, rfl⟩ := HTA.out hl
      have hl2 : (50 : Int) < (T.length : Int) := by omega
      have hl3 : (50 : Int) ≤ (cT : Int) := by have := HTT.out; omega
      have E := Lib.hid (HE6.out hl)
      clear hl
      go_wp2_with fail
      go_meet
      case rel => exact Lib.hid (HB2.out.set 2 _ (by rw [E.out]; rfl))
    · have hl2 : decide ((50 : Int) < (T.length : Int)) = false := by simp; omega
      have hl5 : ¬ (50 : Int) < (T.length : Int) := by omega
      have E := Lib.hid (HE5.out (by omega))
      clear hl
      go_wp2_with fail
      go_meet
      case rel => rw [E.out]; exact HB2
  case rest =>
  have HB3 := hcut
  clear hcut c0 HB2
  clear HE1 HE2 HE3 HE4 HE5 HE6 HCA HDA HTA HCC HDD HTT HCM HDM HTM K1 K2 K3
  go_upto_region 7 with fail
  have ky := K3.of HB3.out
  have kz := ky.step (Ext.drew wc)
  go_region_held3 (fun w' => K3 W (.slice AC C1.length cC) (.slice AD D1.length cD) (.slice AT T1.length cT) w') (repeat (first | assumption | with_reducible refine K3.put ?_ _ _ | with_reducible refine K3.step ?_ (Ext.alloc _ _) | with_reducible refine K3.step ?_ (Ext.drew _))) (first | (refine step_fresh0 rfl (.tmp 27) (.tmp 29) 22 rfl 37 i0 (.int .u16 0) 1 2 Tryd.underlying22 HI.out HZ0.out HZ1.out HZ2.out rfl (by decide) _ (by simp [Act.eval]; rfl) AC C1.length cC (C1.map (.int .u16)) (by simp [Act.eval]) (by rw [List.length_map, Nat.mul_one]) (Ext.lies (K3.e (by assumption)) HC.out) (by unfold maxLen; have := L1.out; omega) (by have := L1.out; omega) ?_; intro A1 c1 w1 h1 h2 h3 h4; have HQ1 := Lib.hid h1; have HR1 := Lib.hid h2; have HX1 := Lib.hid (show Ext _ _ from h4); have HL1 := Lib.hid (Liv.low h3 (K3.big (by assumption))); have HE1 := K3.step (by assumption) h4; clear h1 h2 h3 h4) | (refine step_fresh0 rfl (.tmp 31) (.tmp 33) 23 rfl 36 j0 (.int .u32 0) 1 4 Tryd.underlying23 HJ.out HY0.out HY1.out HY2.out rfl (by decide) _ (by simp [Act.eval]; rfl) AD D1.length cD (D1.map (.int .u32)) (by simp [Act.eval]) (by rw [List.length_map, Nat.mul_one]) (Ext.lies (K3.e (by assumption)) HD.out) (by unfold maxLen; have := L2.out; omega) (by have := L2.out; omega) ?_; intro A2 c2 w2 h1 h2 h3 h4; have HQ2 := Lib.hid h1; have HR2 := Lib.hid h2; have HX2 := Lib.hid (show Ext _ _ from h4); have HL2 := Lib.hid (Liv.low h3 (K3.big (by assumption))); have HE2 := K3.step (by assumption) h4; clear h1 h2 h3 h4) | (refine step_fresh0 rfl (.tmp 35) (.tmp 37) 23 rfl 36 j0 (.int .u32 0) 1 4 Tryd.underlying23 HJ.out HY0.out HY1.out HY2.out rfl (by decide) _ (by simp [Act.eval]; rfl) AT T1.length cT (T1.map (.int .u32)) (by simp [Act.eval]) (by rw [List.length_map, Nat.mul_one]) (Ext.lies (K3.e (by assumption)) HT.out) (by unfold maxLen; have := L3.out; omega) (by have := L3.out; omega) ?_; intro A3 c3 w3 h1 h2 h3 h4; have HQ3 := Lib.hid h1; have HR3 := Lib.hid h2; have HX3 := Lib.hid (show Ext _ _ from h4); have HL3 := Lib.hid (Liv.low h3 (K3.big (by assumption))); have HE3 := K3.step (by assumption) h4; clear h1 h2 h3 h4; obtain ⟨q0, q1, q2, qr⟩ := HE3.1.r; have d0 := qr.cell 0; have d1 := qr.cell 1; have d2 := qr.cell 2; have e0 := qr.frozen 0; have e1 := qr.frozen 1; have e2 := qr.frozen 2; clear qr))
  all_goals
    have g1 : Ext w1 w3 := (by repeat (first | exact Ext.refl _ | assumption | with_reducible refine Ext.trans ?_ HX3.out | with_reducible refine Ext.trans ?_ HX2.out | with_reducible refine Ext.trans ?_ (Ext.alloc _ _) | with_reducible refine Ext.trans ?_ (Ext.drew _)))
    have g2 : Ext w2 w3 := (by repeat (first | exact Ext.refl _ | assumption | with_reducible refine Ext.trans ?_ HX3.out | with_reducible refine Ext.trans ?_ (Ext.alloc _ _) | with_reducible refine Ext.trans ?_ (Ext.drew _)))
    obtain ⟨wf, hwf, hb, he⟩ := sml_fin HE3 g1 g2 HL1.out HL2.out HL3.out HQ1.out HR1.out HQ2.out HR2.out HQ3.out HR3.out
    have hwf' : ((w3.setCell ⟨W.heap.size + 1, 0, none⟩ (.slice A1 C1.length c1)).setCell ⟨W.heap.size + 1, 1, none⟩ (.slice A2 D1.length c2)).setCell ⟨W.heap.size + 1, 2, none⟩ (.slice A3 T1.length c3) = wf := hwf
    rw [hwf']
    have n0 := hb.cell 0; have n1 := hb.cell 1; have n2 := hb.cell 2
    simp at n0 n1 n2
    have HEN := Lib.hid he
    clear hwf hwf' he hb g1 g2 d0 d1 d2 e0 e1 e2 HE1 HE2 HE3 ky kz
    go_wp2_with fail
    exact bodyPost_ret (v := .agg #[.slice A1 C1.length c1, .slice A2 D1.length c2, .slice A3 T1.length c3]) (by simp [results, Tryd.results8, go_sem, n0, n1, n2]) rfl HEN.out
end Go.Proofs.YtkafmpdjpjgkgaaDoor.Rn
/- DERIVED. The law's lives and few. By an AI agent. -/
namespace Go.Proofs.YtkafmpdjpjgkgaaDoor.Rn
open Go.ChangeShapes Go.WideShapes Go.ChangeAt Go.RowKit WMath Word Args Mm Co Lk
set_option linter.unusedVariables false
set_option linter.unusedSimpArgs false
def mL : St := m0 [8193, 48640] [9] []
theorem fitL : Fit mL := ⟨by decide, by decide, nofun, by decide, by decide, by decide, by decide, by decide⟩
theorem runL : (runV 10 zS mL).ls.length = 2 ∧ (runV 10 zS mL).er = 0 ∧ (runV 10 zS mL).m.W = [9] ∧ (runV 10 zS mL).m.d = 0 := by
  refine ⟨by kernel_rfl, by kernel_rfl, by kernel_rfl, by kernel_rfl⟩
set_option maxRecDepth 100000 in
set_option maxHeartbeats 4000000 in
theorem lives (w : World) (hT : Tp.Tb w) : Calls Tryd.prog 14 #[] w fun e w' => e = .returned (.bool true) ∧ Below w.heap.size w w' := by
  have hx : Ext w ((w.alloc (.cells (([8193, 48640] : List Int).map (Value.int .u16)).toArray 37)).alloc (.cells (([9] : List Int).map (Value.int .u32)).toArray 36)) := (Ext.alloc _ _).trans (Ext.alloc _ _)
  have l2 := lies_new (w.alloc (.cells (([8193, 48640] : List Int).map (Value.int .u16)).toArray 37)) .u32 36 [9]
  rw [World.size_alloc] at l2
  have he := exec (some ⟨w.heap.size, 0, none⟩) 2 [8193, 48640] (some ⟨w.heap.size + 1, 0, none⟩) 1 [9] none 0 [] 10 10 10 _ ((Ext.alloc _ _).lies (lies_new w .u16 37 [8193, 48640])) l2 (Lies.nil _ _) (by decide) (by decide) (by decide) (by decide) fitL (by decide) (by decide) (by decide) (by decide) (by decide) (hT.below hx)
  obtain ⟨r1, r2, r3, r4⟩ := runL
  rw [show m0 [8193, 48640] [9] [] = mL from rfl] at he
  generalize runV 10 zS mL = R at *
  have HE := Lib.hid he; have HX := Lib.hid hx
  have R1 := Lib.hid r1; have R2 := Lib.hid r2; have R3 := Lib.hid r3; have R4 := Lib.hid r4
  clear hx l2 he r1 r2 r3 r4 hT
  go_enter Tryd.func14, Tryd.ntmps14
  go_wp2_with fail
  refine HE.out.mono ?_
  rintro e w2 ⟨A, c, B, d, rfl, hla, hlb, hk, hx2⟩
  rw [show tl true R.ls = R.ls from rfl] at hk
  rw [show (tl true R.ls).length = R.ls.length from rfl, R1.out, R2.out, R3.out, R4.out]
  rw [R3.out] at hla
  obtain ⟨g, rfl, _, hc⟩ := hla 0 (.int .u32 9) rfl
  have HB := Lib.hid (HX.out.trans hx2)
  clear hla hlb hk hx2 HE HX
  go_upto_region 2 with fail
  have hx3 : Ext w2 (w2.alloc (.cells #[.int .i64 2, .int .i64 0, .int .i64 0, .slice (some ⟨g, 0, none⟩) 1 c, .slice B 2 d] 31)) := Ext.alloc _ _
  have hb3 := Blk.new w2 31 #[.int .i64 2, .int .i64 0, .int .i64 0, .slice (some ⟨g, 0, none⟩) 1 c, .slice B 2 d]
  have hc3 := cell_ext hx3 hc
  have HB3 := Lib.hid (HB.out.trans hx3)
  generalize w2.alloc (.cells #[.int .i64 2, .int .i64 0, .int .i64 0, .slice (some ⟨g, 0, none⟩) 1 c, .slice B 2 d] 31) = w3 at *
  generalize w2.heap.size = q at *
  have y0 := hb3.cell 0; have y1 := hb3.cell 1; have y2 := hb3.cell 2; have y3 := hb3.cell 3; have y4 := hb3.cell 4
  simp at y0 y1 y2 y3 y4
  clear hx3 hb3 hc HB
  go_wp2_with fail
  go_ret
  exact ⟨rfl, HB3.out⟩
set_option maxHeartbeats 1000000 in
theorem few (z : Int) (w : World) : Calls Tryd.prog 9 #[.int .i64 z] w fun e w' => e = .returned (.int .i64 (if 300 < z then 300 else z)) ∧ w' = w := by
  by_cases h : 300 < z
  · rw [if_pos h]
    go_enter Tryd.func9, Tryd.ntmps9
    go_wp2_with fail
    go_ret
    exact ⟨rfl, rfl⟩
  · rw [if_neg h]
    have h2 : decide (300 < z) = false := by simpa using h
    go_enter Tryd.func9, Tryd.ntmps9
    go_wp2_with fail
    go_ret
    exact ⟨rfl, rfl⟩
end Go.Proofs.YtkafmpdjpjgkgaaDoor.Rn
