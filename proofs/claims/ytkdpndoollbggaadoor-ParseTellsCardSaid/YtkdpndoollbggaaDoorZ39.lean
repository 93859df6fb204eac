/- DERIVED. PaRead in one text. By an AI agent. -/
import Derived.Test.YtkdpndoollbggaaDoorZ38
/- DERIVED. The contract of package parse's read. By an AI agent. -/
namespace Go.Proofs.YtkdpndoollbggaaDoor.Pa
open Go Go.ChangeShapes Go.WideShapes Go.ChangeAt Go.RowKit Lx Args
set_option linter.unusedVariables false
set_option linter.unusedSimpArgs false
attribute [local go_sem] fTk0 fTk1 fTk2
/-- The three results' boxes. -/
theorem boxes (w : World) : ∃ w0, ((w.alloc (.cells #[.int .i64 0, .string ⟨#[]⟩, .int .u32 0, .int .i64 0, .slice none 0 0, .slice none 0 0] 27)).alloc (.cells #[.int .i64 0] 3)).alloc (.cells #[.int .i64 0] 28) = w0 ∧ Below w.heap.size w w0 ∧ w0.heap.size = w.heap.size + 3 ∧
    Blk w0 w.heap.size 27 #[.int .i64 0, .string ⟨#[]⟩, .int .u32 0, .int .i64 0, .slice none 0 0, .slice none 0 0] ∧ Blk w0 (w.heap.size + 1) 3 #[.int .i64 0] ∧ Blk w0 (w.heap.size + 2) 28 #[.int .i64 0] := by
  refine ⟨_, rfl, (((Below.refl _ _).alloc (Nat.le_refl _) _).alloc (by simp) _).alloc (by simp; omega) _, by simp, ((Blk.new _ _ _).alloc _).alloc _, ?_, ?_⟩
  · have h := (Blk.new (w.alloc (.cells #[.int .i64 0, .string ⟨#[]⟩, .int .u32 0, .int .i64 0, .slice none 0 0, .slice none 0 0] 27)) 3 #[.int .i64 0]).alloc (.cells #[.int .i64 0] 28)
    have e : (w.alloc (.cells #[.int .i64 0, .string ⟨#[]⟩, .int .u32 0, .int .i64 0, .slice none 0 0, .slice none 0 0] 27)).heap.size = w.heap.size + 1 := by simp
    rw [e] at h; exact h
  · have h := Blk.new ((w.alloc (.cells #[.int .i64 0, .string ⟨#[]⟩, .int .u32 0, .int .i64 0, .slice none 0 0, .slice none 0 0] 27)).alloc (.cells #[.int .i64 0] 3)) 28 #[.int .i64 0]
    have e : ((w.alloc (.cells #[.int .i64 0, .string ⟨#[]⟩, .int .u32 0, .int .i64 0, .slice none 0 0, .slice none 0 0] 27)).alloc (.cells #[.int .i64 0] 3)).heap.size = w.heap.size + 2 := by simp
    rw [e] at h; exact h
theorem res3 {g : Nat} {n : Array Value} {a b : Value} {W : World} (hN : Blk W g 27 n) (hs : some 6 = some n.size) (hA : Blk W (g + 1) 3 #[a]) (hE : Blk W (g + 2) 28 #[b]) (tmps : Array Value)
    (h4 : tmps.getD 4 undef = .pointer (some ⟨g, 0, none⟩)) (h5 : tmps.getD 5 undef = .pointer (some ⟨g + 1, 0, none⟩)) (h6 : tmps.getD 6 undef = .pointer (some ⟨g + 2, 0, none⟩)) :
    (results Tryd.f10 tmps).run Tryd.prog W = .ok (.tuple #[.agg n, a, b]) W :=
  results_ccc rfl tmps W g (g + 1) (g + 2) (.agg n) a b h4 h5 h6 (run_loadVar_row W g 27 27 n (0, 0) _ hN Tryd.underlying27 rfl (szNd.trans hs)) (loadVar_plain (isAggI W) (hA.cell 0)) (loadVar_plain (isAggE W) (hE.cell 0))
/-- The place and the error that stand. -/
def KA2 (g a er : Nat) (w : World) : Prop := w.cell? ⟨g + 1, 0, none⟩ = some (.int .i64 (a : Int)) ∧ w.cell? ⟨g + 2, 0, none⟩ = some (.int .i64 (er : Int))
theorem KA2.of {g a er : Nat} {w : World} (h : Blk w (g + 1) 3 #[.int .i64 (a : Int)]) (h2 : Blk w (g + 2) 28 #[.int .i64 (er : Int)]) : KA2 g a er w := ⟨h.cell 0, h2.cell 0⟩
set_option maxRecDepth 100000 in
set_option maxHeartbeats 8000000 in
theorem read_bad_program (s : ByteArray) (w : World) (h : (wordsL s.data.toList).er ≠ 0) :
    Calls Tryd.prog 10 #[.string s, .func (.func 11) #[] #[]] w (RdP ProgR s w) := by
  obtain ⟨w0, hw0, hb0, hs0, hN, hA, hE⟩ := boxes w
  have hwd := pwords s w0
  have hnil := words_err s.data.toList h
  have HBAD := Lib.hid (show BadR ProgR (wordsL s.data.toList) (wordsL s.data.toList).at_ (wordsL s.data.toList).er from .inl ⟨h, rfl, rfl⟩)
  have hne : (((wordsL s.data.toList).er : Int) != 0) = true := by simp; omega
  unfold PWordsP at hwd
  obtain ⟨a, ha⟩ : ∃ a, (wordsL s.data.toList).at_ = a := ⟨_, rfl⟩
  obtain ⟨er, her⟩ : ∃ er, (wordsL s.data.toList).er = er := ⟨_, rfl⟩
  rw [ha, her] at HBAD hwd
  rw [her] at hne
  have HWD := Lib.hid hwd
  have HB0 := Lib.hid hb0; have HN := Lib.hid hN; have HA := Lib.hid hA; have HE := Lib.hid hE; have HW := Lib.hid hw0
  obtain ⟨g, hg⟩ : ∃ g, w.heap.size = g := ⟨_, rfl⟩
  have HG := Lib.hid hg
  rw [hg] at HN HA HE
  clear hb0 hN hA hE hw0 h hnil hwd ha her
  go_enter Tryd.func10, Tryd.ntmps10
  go_wp2_with fail
  simp only [Nat.add_assoc, Nat.reduceAdd]
  rw [HW.out]
  refine HWD.out.mono ?_
  rintro e w1 ⟨A, c, rfl, hL, hb1, hc1, hc2⟩
  have hN1 := HN.out.below hb1 HN.out.lt
  have hA1 := HA.out.below hb1 HA.out.lt
  have hE1 := HE.out.below hb1 HE.out.lt
  obtain ⟨⟨e0, e1, e2, e3, e4, e5⟩, z0, z1, z2, z3, z4, z5⟩ := Blk.c6 hN1
  have c1 : w1.cell? ⟨g + 1, 0, none⟩ = some (.int .i64 0) := hA1.cell 0
  have c2 : w1.cell? ⟨g + 2, 0, none⟩ = some (.int .i64 0) := hE1.cell 0
  have f1 := hA1.frozen 0
  have f2 := hE1.frozen 0
  have HN1 := Lib.hid hN1; have HA1 := Lib.hid hA1; have HE1 := Lib.hid hE1; have HB1 := Lib.hid (HB0.out.trans (hb1.mono HB0.out.size))
  clear hN1 hA1 hE1 hL hc1 hc2
  go_upto_region 3 with fail
  obtain ⟨w2, hw2⟩ : ∃ w2, (w1.setCell ⟨g + 1, 0, none⟩ (.int .i64 (a : Int))).setCell ⟨g + 2, 0, none⟩ (.int .i64 (er : Int)) = w2 := ⟨_, rfl⟩
  have hg01 : g ≠ g + 1 := by omega
  have hg02 : g ≠ g + 2 := by omega
  have hg12 : g + 1 ≠ g + 2 := by omega
  have hN2 : Blk w2.drew g 27 #[.int .i64 0, .string ⟨#[]⟩, .int .u32 0, .int .i64 0, .slice none 0 0, .slice none 0 0] := by rw [← hw2]; exact ((HN1.out.far (p := ⟨g + 1, 0, none⟩) hg01 _).far (p := ⟨g + 2, 0, none⟩) hg02 _).drew
  have hA2 : Blk w2.drew (g + 1) 3 #[.int .i64 (a : Int)] := by rw [← hw2]; exact ((HA1.out.set 0 _).far (p := ⟨g + 2, 0, none⟩) hg12 _).drew
  have hE2 : Blk w2.drew (g + 2) 28 #[.int .i64 (er : Int)] := by rw [← hw2]; exact ((HE1.out.far (p := ⟨g + 1, 0, none⟩) (Ne.symm hg12) _).set 0 _).drew
  have hb2 : Below w.heap.size w w2.drew := by rw [← hw2]; exact below_drewN (((HB1.out.setCell (p := ⟨g + 1, 0, none⟩) (by show w.heap.size ≤ g + 1; omega) _).setCell (p := ⟨g + 2, 0, none⟩) (by show w.heap.size ≤ g + 2; omega) _)) 1
  rw [hw2]
  clear hw2 e0 e1 e2 e3 e4 e5 z0 z1 z2 z3 z4 z5 c1 c2 f1 f2
  refine HT.wp_region (Z := fun w' => KA2 g a er w') (S := fun _ => True) (st := []) (by kernel_rfl) ?_
  obtain ⟨w3, hw3⟩ : ∃ w3, w2.drew = w3 := ⟨_, rfl⟩
  rw [hw3] at hN2 hA2 hE2 hb2 ⊢
  clear hw3
  have hZ0 : KA2 g a er w3 := KA2.of hA2 hE2
  refine HT.takeP (i := 0) (v := ?_) rfl (by kernel_rfl) (by kernel_rfl) (by kernel_rfl) (by kernel_rfl) (fun _ _ _ h => h) (Or.inl ⟨by rfl, ?_⟩) hZ0 (fun _ => trivial) ?_
  rotate_left
  · (intro w hSw; obtain ⟨y0, y1⟩ := hSw; go_simp; try with_reducible rfl)
  (try simp only [Act.put, List.getElem_toArray, List.getElem_cons_succ, List.getElem_cons_zero, List.setIfInBounds_toArray, List.set_cons_zero, List.set_cons_succ])
  refine HT.takeP (i := 1) (v := ?_) rfl (by kernel_rfl) (by kernel_rfl) (by kernel_rfl) (by kernel_rfl) (fun _ _ _ h => h) (Or.inl ⟨by rfl, ?_⟩) hZ0 (fun _ => trivial) ?_
  rotate_left
  · (intro w hSw; obtain ⟨y0, y1⟩ := hSw; go_simp; try with_reducible rfl)
  (try simp only [Act.put, List.getElem_toArray, List.getElem_cons_succ, List.getElem_cons_zero, List.setIfInBounds_toArray, List.set_cons_zero, List.set_cons_succ])
  refine HT.takeP (i := 2) (v := ?_) rfl (by kernel_rfl) (by kernel_rfl) (by kernel_rfl) (by kernel_rfl) (fun _ _ _ h => h) (Or.inl ⟨by rfl, ?_⟩) hZ0 (fun _ => trivial) ?_
  rotate_left
  · (intro w hSw; obtain ⟨y0, y1⟩ := hSw; go_simp; try with_reducible rfl)
  (try simp only [Act.put, List.getElem_toArray, List.getElem_cons_succ, List.getElem_cons_zero, List.setIfInBounds_toArray, List.set_cons_zero, List.set_cons_succ])
  obtain ⟨⟨e0, e1, e2, e3, e4, e5⟩, z0, z1, z2, z3, z4, z5⟩ := Blk.c6 hN2
  have c1 : w3.cell? ⟨g + 1, 0, none⟩ = some (.int .i64 (a : Int)) := hA2.cell 0
  have c2 : w3.cell? ⟨g + 2, 0, none⟩ = some (.int .i64 (er : Int)) := hE2.cell 0
  have f1 := hA2.frozen 0
  have f2 := hE2.frozen 0
  have hA3 : Blk _ (g + 1) 3 #[.int .i64 (a : Int)] := put6_far hA2 (Ne.symm hg01) (.int .i64 0) (.string ⟨#[]⟩) (.int .u32 0) (.int .i64 0) (.slice none 0 0) (.slice none 0 0)
  have hE3 : Blk _ (g + 2) 28 #[.int .i64 (er : Int)] := put6_far hE2 (Ne.symm hg02) (.int .i64 0) (.string ⟨#[]⟩) (.int .u32 0) (.int .i64 0) (.slice none 0 0) (.slice none 0 0)
  have hN3 := Blk.put6 hN2 (.int .i64 0) (.string ⟨#[]⟩) (.int .u32 0) (.int .i64 0) (.slice none 0 0) (.slice none 0 0)
  have hA4 : Blk _ (g + 1) 3 #[.int .i64 (a : Int)] := hA3.set 0 (.int .i64 (a : Int))
  have hE4 := hE3.far (p := ⟨g + 1, 0, none⟩) (Ne.symm hg12) (.int .i64 (a : Int))
  have hN4 := hN3.far (p := ⟨g + 1, 0, none⟩) hg01 (.int .i64 (a : Int))
  have hA5 := hA4.far (p := ⟨g + 2, 0, none⟩) hg12 (.int .i64 (er : Int))
  have hE5 : Blk _ (g + 2) 28 #[.int .i64 (er : Int)] := hE4.set 0 (.int .i64 (er : Int))
  have hN5 := hN4.far (p := ⟨g + 2, 0, none⟩) hg02 (.int .i64 (er : Int))
  have hu5 := ((put6_upd (X := fun b => g ≤ b) (Upd.of_below hb2 _) (fun _ => Nat.le_refl g) (.int .i64 0) (.string ⟨#[]⟩) (.int .u32 0) (.int .i64 0) (.slice none 0 0) (.slice none 0 0)).setCell (p := ⟨g + 1, 0, none⟩) (fun _ => by show g ≤ g + 1; omega) (.int .i64 (a : Int))).setCell (p := ⟨g + 2, 0, none⟩) (fun _ => by show g ≤ g + 2; omega) (.int .i64 (er : Int))
  have HEND := Lib.hid (show RdP ProgR s w (.returned (.tuple #[.agg #[.int .i64 0, .string ⟨#[]⟩, .int .u32 0, .int .i64 0, .slice none 0 0, .slice none 0 0], .int .i64 (a : Int), .int .i64 (er : Int)])) _ from .inr ⟨a, er, rfl, HBAD.out, hu5.below (Nat.le_refl _) fun k hk => by omega⟩)
  refine HT.one (i := 3) (by kernel_rfl) rfl (fun K hK => ?_)
  go_simp
  refine hK.out _ _ (KA2.of hA3 hE3) trivial ?_
  clear hK K
  (try simp only [Act.put, List.getElem_toArray, List.getElem_cons_succ, List.getElem_cons_zero, List.setIfInBounds_toArray, List.set_cons_zero, List.set_cons_succ])
  refine HT.one (i := 4) (by kernel_rfl) rfl (fun K hK => ?_)
  go_simp
  refine hK.out _ _ (KA2.of hA4 hE4) trivial ?_
  clear hK K
  (try simp only [Act.put, List.getElem_toArray, List.getElem_cons_succ, List.getElem_cons_zero, List.setIfInBounds_toArray, List.set_cons_zero, List.set_cons_succ])
  refine HT.one (i := 5) (by kernel_rfl) rfl (fun K hK => ?_)
  go_simp
  refine hK.out _ _ (KA2.of hA5 hE5) trivial ?_
  clear hK K
  (try simp only [Act.put, List.getElem_toArray, List.getElem_cons_succ, List.getElem_cons_zero, List.setIfInBounds_toArray, List.set_cons_zero, List.set_cons_succ])
  refine HT.done (by kernel_rfl) ?_
  dsimp only [Exit.then]
  (try simp only [Act.put, List.getElem_toArray, List.getElem_cons_succ, List.getElem_cons_zero, List.setIfInBounds_toArray, List.set_cons_zero, List.set_cons_succ])
  have HN5 := Lib.hid hN5; have HA5 := Lib.hid hA5; have HE5 := Lib.hid hE5
  clear hN2 hA2 hE2 hN3 hA3 hE3 hN4 hA4 hE4 hN5 hA5 hE5 hu5 hb2 hZ0
  go_wp2_with fail
  exact bodyPost_ret (res3 HN5.out rfl HA5.out HE5.out _ rfl rfl rfl) rfl HEND.out
set_option maxRecDepth 100000 in
set_option maxHeartbeats 8000000 in
theorem read_bad_expr (s : ByteArray) (w : World) (h : (wordsL s.data.toList).er ≠ 0) :
    Calls Tryd.prog 10 #[.string s, .func (.func 27) #[] #[]] w (RdP ExprR s w) := by
  obtain ⟨w0, hw0, hb0, hs0, hN, hA, hE⟩ := boxes w
  have hwd := pwords s w0
  have hnil := words_err s.data.toList h
  have HBAD := Lib.hid (show BadR ExprR (wordsL s.data.toList) (wordsL s.data.toList).at_ (wordsL s.data.toList).er from .inl ⟨h, rfl, rfl⟩)
  have hne : (((wordsL s.data.toList).er : Int) != 0) = true := by simp; omega
  unfold PWordsP at hwd
  obtain ⟨a, ha⟩ : ∃ a, (wordsL s.data.toList).at_ = a := ⟨_, rfl⟩
  obtain ⟨er, her⟩ : ∃ er, (wordsL s.data.toList).er = er := ⟨_, rfl⟩
  rw [ha, her] at HBAD hwd
  rw [her] at hne
  have HWD := Lib.hid hwd
  have HB0 := Lib.hid hb0; have HN := Lib.hid hN; have HA := Lib.hid hA; have HE := Lib.hid hE; have HW := Lib.hid hw0
  obtain ⟨g, hg⟩ : ∃ g, w.heap.size = g := ⟨_, rfl⟩
  have HG := Lib.hid hg
  rw [hg] at HN HA HE
  clear hb0 hN hA hE hw0 h hnil hwd ha her
  go_enter Tryd.func10, Tryd.ntmps10
  go_wp2_with fail
  simp only [Nat.add_assoc, Nat.reduceAdd]
  rw [HW.out]
  refine HWD.out.mono ?_
  rintro e w1 ⟨A, c, rfl, hL, hb1, hc1, hc2⟩
  have hN1 := HN.out.below hb1 HN.out.lt
  have hA1 := HA.out.below hb1 HA.out.lt
  have hE1 := HE.out.below hb1 HE.out.lt
  obtain ⟨⟨e0, e1, e2, e3, e4, e5⟩, z0, z1, z2, z3, z4, z5⟩ := Blk.c6 hN1
  have c1 : w1.cell? ⟨g + 1, 0, none⟩ = some (.int .i64 0) := hA1.cell 0
  have c2 : w1.cell? ⟨g + 2, 0, none⟩ = some (.int .i64 0) := hE1.cell 0
  have f1 := hA1.frozen 0
  have f2 := hE1.frozen 0
  have HN1 := Lib.hid hN1; have HA1 := Lib.hid hA1; have HE1 := Lib.hid hE1; have HB1 := Lib.hid (HB0.out.trans (hb1.mono HB0.out.size))
  clear hN1 hA1 hE1 hL hc1 hc2
  go_upto_region 3 with fail
  obtain ⟨w2, hw2⟩ : ∃ w2, (w1.setCell ⟨g + 1, 0, none⟩ (.int .i64 (a : Int))).setCell ⟨g + 2, 0, none⟩ (.int .i64 (er : Int)) = w2 := ⟨_, rfl⟩
  have hg01 : g ≠ g + 1 := by omega
  have hg02 : g ≠ g + 2 := by omega
  have hg12 : g + 1 ≠ g + 2 := by omega
  have hN2 : Blk w2.drew g 27 #[.int .i64 0, .string ⟨#[]⟩, .int .u32 0, .int .i64 0, .slice none 0 0, .slice none 0 0] := by rw [← hw2]; exact ((HN1.out.far (p := ⟨g + 1, 0, none⟩) hg01 _).far (p := ⟨g + 2, 0, none⟩) hg02 _).drew
  have hA2 : Blk w2.drew (g + 1) 3 #[.int .i64 (a : Int)] := by rw [← hw2]; exact ((HA1.out.set 0 _).far (p := ⟨g + 2, 0, none⟩) hg12 _).drew
  have hE2 : Blk w2.drew (g + 2) 28 #[.int .i64 (er : Int)] := by rw [← hw2]; exact ((HE1.out.far (p := ⟨g + 1, 0, none⟩) (Ne.symm hg12) _).set 0 _).drew
  have hb2 : Below w.heap.size w w2.drew := by rw [← hw2]; exact below_drewN (((HB1.out.setCell (p := ⟨g + 1, 0, none⟩) (by show w.heap.size ≤ g + 1; omega) _).setCell (p := ⟨g + 2, 0, none⟩) (by show w.heap.size ≤ g + 2; omega) _)) 1
  rw [hw2]
  clear hw2 e0 e1 e2 e3 e4 e5 z0 z1 z2 z3 z4 z5 c1 c2 f1 f2
  refine HT.wp_region (Z := fun w' => KA2 g a er w') (S := fun _ => True) (st := []) (by kernel_rfl) ?_
  obtain ⟨w3, hw3⟩ : ∃ w3, w2.drew = w3 := ⟨_, rfl⟩
  rw [hw3] at hN2 hA2 hE2 hb2 ⊢
  clear hw3
  have hZ0 : KA2 g a er w3 := KA2.of hA2 hE2
  refine HT.takeP (i := 0) (v := ?_) rfl (by kernel_rfl) (by kernel_rfl) (by kernel_rfl) (by kernel_rfl) (fun _ _ _ h => h) (Or.inl ⟨by rfl, ?_⟩) hZ0 (fun _ => trivial) ?_
  rotate_left
  · (intro w hSw; obtain ⟨y0, y1⟩ := hSw; go_simp; try with_reducible rfl)
  (try simp only [Act.put, List.getElem_toArray, List.getElem_cons_succ, List.getElem_cons_zero, List.setIfInBounds_toArray, List.set_cons_zero, List.set_cons_succ])
  refine HT.takeP (i := 1) (v := ?_) rfl (by kernel_rfl) (by kernel_rfl) (by kernel_rfl) (by kernel_rfl) (fun _ _ _ h => h) (Or.inl ⟨by rfl, ?_⟩) hZ0 (fun _ => trivial) ?_
  rotate_left
  · (intro w hSw; obtain ⟨y0, y1⟩ := hSw; go_simp; try with_reducible rfl)
  (try simp only [Act.put, List.getElem_toArray, List.getElem_cons_succ, List.getElem_cons_zero, List.setIfInBounds_toArray, List.set_cons_zero, List.set_cons_succ])
  refine HT.takeP (i := 2) (v := ?_) rfl (by kernel_rfl) (by kernel_rfl) (by kernel_rfl) (by kernel_rfl) (fun _ _ _ h => h) (Or.inl ⟨by rfl, ?_⟩) hZ0 (fun _ => trivial) ?_
  rotate_left
  · (intro w hSw; obtain ⟨y0, y1⟩ := hSw; go_simp; try with_reducible rfl)
  (try simp only [Act.put, List.getElem_toArray, List.getElem_cons_succ, List.getElem_cons_zero, List.setIfInBounds_toArray, List.set_cons_zero, List.set_cons_succ])
  obtain ⟨⟨e0, e1, e2, e3, e4, e5⟩, z0, z1, z2, z3, z4, z5⟩ := Blk.c6 hN2
  have c1 : w3.cell? ⟨g + 1, 0, none⟩ = some (.int .i64 (a : Int)) := hA2.cell 0
  have c2 : w3.cell? ⟨g + 2, 0, none⟩ = some (.int .i64 (er : Int)) := hE2.cell 0
  have f1 := hA2.frozen 0
  have f2 := hE2.frozen 0
  have hA3 : Blk _ (g + 1) 3 #[.int .i64 (a : Int)] := put6_far hA2 (Ne.symm hg01) (.int .i64 0) (.string ⟨#[]⟩) (.int .u32 0) (.int .i64 0) (.slice none 0 0) (.slice none 0 0)
  have hE3 : Blk _ (g + 2) 28 #[.int .i64 (er : Int)] := put6_far hE2 (Ne.symm hg02) (.int .i64 0) (.string ⟨#[]⟩) (.int .u32 0) (.int .i64 0) (.slice none 0 0) (.slice none 0 0)
  have hN3 := Blk.put6 hN2 (.int .i64 0) (.string ⟨#[]⟩) (.int .u32 0) (.int .i64 0) (.slice none 0 0) (.slice none 0 0)
  have hA4 : Blk _ (g + 1) 3 #[.int .i64 (a : Int)] := hA3.set 0 (.int .i64 (a : Int))
  have hE4 := hE3.far (p := ⟨g + 1, 0, none⟩) (Ne.symm hg12) (.int .i64 (a : Int))
  have hN4 := hN3.far (p := ⟨g + 1, 0, none⟩) hg01 (.int .i64 (a : Int))
  have hA5 := hA4.far (p := ⟨g + 2, 0, none⟩) hg12 (.int .i64 (er : Int))
  have hE5 : Blk _ (g + 2) 28 #[.int .i64 (er : Int)] := hE4.set 0 (.int .i64 (er : Int))
  have hN5 := hN4.far (p := ⟨g + 2, 0, none⟩) hg02 (.int .i64 (er : Int))
  have hu5 := ((put6_upd (X := fun b => g ≤ b) (Upd.of_below hb2 _) (fun _ => Nat.le_refl g) (.int .i64 0) (.string ⟨#[]⟩) (.int .u32 0) (.int .i64 0) (.slice none 0 0) (.slice none 0 0)).setCell (p := ⟨g + 1, 0, none⟩) (fun _ => by show g ≤ g + 1; omega) (.int .i64 (a : Int))).setCell (p := ⟨g + 2, 0, none⟩) (fun _ => by show g ≤ g + 2; omega) (.int .i64 (er : Int))
  have HEND := Lib.hid (show RdP ExprR s w (.returned (.tuple #[.agg #[.int .i64 0, .string ⟨#[]⟩, .int .u32 0, .int .i64 0, .slice none 0 0, .slice none 0 0], .int .i64 (a : Int), .int .i64 (er : Int)])) _ from .inr ⟨a, er, rfl, HBAD.out, hu5.below (Nat.le_refl _) fun k hk => by omega⟩)
  refine HT.one (i := 3) (by kernel_rfl) rfl (fun K hK => ?_)
  go_simp
  refine hK.out _ _ (KA2.of hA3 hE3) trivial ?_
  clear hK K
  (try simp only [Act.put, List.getElem_toArray, List.getElem_cons_succ, List.getElem_cons_zero, List.setIfInBounds_toArray, List.set_cons_zero, List.set_cons_succ])
  refine HT.one (i := 4) (by kernel_rfl) rfl (fun K hK => ?_)
  go_simp
  refine hK.out _ _ (KA2.of hA4 hE4) trivial ?_
  clear hK K
  (try simp only [Act.put, List.getElem_toArray, List.getElem_cons_succ, List.getElem_cons_zero, List.setIfInBounds_toArray, List.set_cons_zero, List.set_cons_succ])
  refine HT.one (i := 5) (by kernel_rfl) rfl (fun K hK => ?_)
  go_simp
  refine hK.out _ _ (KA2.of hA5 hE5) trivial ?_
  clear hK K
  (try simp only [Act.put, List.getElem_toArray, List.getElem_cons_succ, List.getElem_cons_zero, List.setIfInBounds_toArray, List.set_cons_zero, List.set_cons_succ])
  refine HT.done (by kernel_rfl) ?_
  dsimp only [Exit.then]
  (try simp only [Act.put, List.getElem_toArray, List.getElem_cons_succ, List.getElem_cons_zero, List.setIfInBounds_toArray, List.set_cons_zero, List.set_cons_succ])
  have HN5 := Lib.hid hN5; have HA5 := Lib.hid hA5; have HE5 := Lib.hid hE5
  clear hN2 hA2 hE2 hN3 hA3 hE3 hN4 hA4 hE4 hN5 hA5 hE5 hu5 hb2 hZ0
  go_wp2_with fail
  exact bodyPost_ret (res3 HN5.out rfl HA5.out HE5.out _ rfl rfl rfl) rfl HEND.out
end Go.Proofs.YtkdpndoollbggaaDoor.Pa
