/- DERIVED. PaPs in one text. By an AI agent. -/
import Derived.Test.YtpoepignpdfleaaGreatDoorZ25
/- DERIVED. The contract of package parse's primary at a name; of primary and unary, whole. By an AI agent. -/
namespace Go.Proofs.YtpoepignpdfleaaGreatDoor.Pa
open Go Go.ChangeShapes Go.WideShapes Go.ChangeAt Go.RowKit Lx Args
set_option linter.unusedVariables false
set_option linter.unusedSimpArgs false
attribute [local go_sem] fTk0 fTk1 fTk2
set_option maxRecDepth 100000 in
set_option maxHeartbeats 4000000 in
theorem prim_name (w : World) (bp d : Nat) (t u : Tk) (q : List Tk) (hd : d ≤ 60) (hp : PS w bp (t :: u :: q) d) (hg : Gt (t :: u :: q)) (hk : t.k = 1) (hu : (u.s == [40]) = false) :
    Calls Tryz.prog 124 #[.pointer (some ⟨bp, 0, none⟩)] w (OutP w bp d (t :: u :: q) (Rd numV (.lev 5) d (t :: u :: q))) := by
  have hon : isS [40] u = false := by rw [isS_eq (hg.tail (by omega)).hd (by decide)]; exact hu
  have hlt := hp.lt
  have hgr := hg.tail (show t.k ≠ 0 by omega)
  obtain ⟨w0, hw0⟩ : ∃ w0, w.alloc (.cells #[.int .i64 0, .string ⟨#[]⟩, .int .u32 0, .int .i64 0, .slice none 0 0, .slice none 0 0] 26) = w0 := ⟨_, rfl⟩
  have hb0 : Below w.heap.size w w0 := by rw [← hw0]; exact (Below.refl _ _).alloc (Nat.le_refl _) _
  have hB : Blk w0 w.heap.size 26 #[.int .i64 0, .string ⟨#[]⟩, .int .u32 0, .int .i64 0, .slice none 0 0, .slice none 0 0] := by rw [← hw0]; exact Blk.new _ _ _
  have hq1 : ((t.k : Int) == 2) = false := by rw [hk]; rfl
  have hq2 : ((t.k : Int) == 1) = true := by rw [hk]; rfl
  have HN := Lib.hid (next w0 bp d t (u :: q) (hp.below hb0))
  have HTK := Lib.hid fun (w' : World) (hb : Below w0.heap.size w0 w') => take w' bp d t (u :: q) ((hp.below hb0).below hb) (by simp)
  have HB0 := Lib.hid hb0; have HB := Lib.hid hB; have HW := Lib.hid hw0; have HGR := Lib.hid hgr; have HKQ := Lib.hid hk
  have hlb := hB.lt
  clear hb0 hp hw0 hB hgr hg hk
  go_enter Tryz.func124, Tryz.ntmps124
  go_wp2_with fail
  rw [HW.out]
  refine HN.out.mono ?_
  rintro e w1 ⟨rfl, hb1⟩
  obtain ⟨w2, hw2⟩ : ∃ w2, w1.alloc (.cells #[.int .i64 (t.k : Int), .string ⟨t.s.toArray⟩, .int .i64 (t.at_ : Int)] 76) = w2 := ⟨_, rfl⟩
  have hb2 : Below w0.heap.size w0 w2 := by rw [← hw2]; exact hb1.alloc hb1.size _
  have hbt : Blk w2 w1.heap.size 76 #[.int .i64 (t.k : Int), .string ⟨t.s.toArray⟩, .int .i64 (t.at_ : Int)] := by rw [← hw2]; exact Blk.new _ _ _
  have HT2 := Lib.hid (HTK.out w2 hb2)
  have h01 : w0.heap.size ≤ w1.heap.size := hb1.size
  have HW2 := Lib.hid hw2; have HU2 := Lib.hid ((below_UB (bp := bp) HB0.out).trans (below_UB hb2)); have HBT := Lib.hid hbt; have HX2 := Lib.hid (HB.out.below hb2 HB.out.lt)
  clear hb1 hb2 hw2 HN hbt HTK
  go_wp2_with fail
  rw [HW2.out]
  refine HT2.out.mono ?_
  rintro e w3 ⟨rfl, hp3, hu3⟩
  have HI3 := Lib.hid (is_ w3 bp d u q [40] hp3)
  have HP3 := Lib.hid hp3
  have HU3 := Lib.hid (HU2.out.trans hu3); have HBT3 := Lib.hid (HBT.out.upd hu3 (by omega)); have HX3 := Lib.hid (HX2.out.upd hu3 (by omega))
  have h13 := (HBT.out.upd hu3 (show ¬ w1.heap.size = bp by omega)).lt
  clear hp3 hu3
  rw [hu] at HI3
  go_wp2_with fail
  refine HI3.out.mono ?_
  rintro e w4 ⟨rfl, hb4⟩
  have h34 : w3.heap.size ≤ w4.heap.size := hb4.size
  have HP4 := Lib.hid (HP3.out.below hb4); have HU4 := Lib.hid (HU3.out.trans (below_UB hb4)); have HBT4 := Lib.hid (HBT3.out.below hb4 h13); have HX4 := Lib.hid (HX3.out.below hb4 (by omega))
  clear hb4
  have hZ := HBT4.out
  obtain ⟨f0, f1, f2, x0, x1, x2⟩ := Blk.c3 hZ
  have HNO := Lib.hid (show Calls Tryz.prog 43 #[.int .i64 1, .string ⟨t.s.toArray⟩, .int .i64 (t.at_ : Int), .slice none 0 0] w4 _ from node w4 1 t.at_ t.s none 0 0)
  clear hZ
  go_wp2_with fail
  refine HNO.out.mono ?_
  rintro e w5 ⟨rfl, hb5⟩
  have hX := HX4.out.below hb5 HX4.out.lt
  obtain ⟨⟨e0, e1, e2, e3, e4, e5⟩, z0, z1, z2, z3, z4, z5⟩ := Blk.c6 hX
  have HX := Lib.hid hX; have HB5 := Lib.hid hb5
  clear hX hb5
  go_wp2_with fail
  refine bodyPost_ret (resNd rfl rfl (Blk.put6 HX.out _ _ _ _ _ _) rfl) rfl ?_
  exact out_ok (lo := w.heap.size + 1) hlt (by omega) (tIn_leaf _ 1 t.at_ 0 t.s) (r_name hd HKQ.out hon) (HP4.out.below HB5.out) HGR.out (by simp) (HU4.out.trans (below_UB HB5.out))
set_option maxRecDepth 100000 in
set_option maxHeartbeats 8000000 in
theorem prim_call {n : Nat} (H : ExC n) (w : World) (bp d : Nat) (t u : Tk) (q : List Tk) (hn : q.length ≤ n) (hd : d ≤ 60) (hp : PS w bp (t :: u :: q) d) (hg : Gt (t :: u :: q)) (hk : t.k = 1) (hu : (u.s == [40]) = true) :
    Calls Tryz.prog 124 #[.pointer (some ⟨bp, 0, none⟩)] w (OutP w bp d (t :: u :: q) (Rd numV (.lev 5) d (t :: u :: q))) := by
  have hon : isS [40] u = true := by rw [isS_eq (hg.tail (by omega)).hd (by decide)]; exact hu
  have hlt := hp.lt
  have hgr := hg.tail (show t.k ≠ 0 by omega)
  obtain ⟨w0, hw0⟩ : ∃ w0, w.alloc (.cells #[.int .i64 0, .string ⟨#[]⟩, .int .u32 0, .int .i64 0, .slice none 0 0, .slice none 0 0] 26) = w0 := ⟨_, rfl⟩
  have hb0 : Below w.heap.size w w0 := by rw [← hw0]; exact (Below.refl _ _).alloc (Nat.le_refl _) _
  have hB : Blk w0 w.heap.size 26 #[.int .i64 0, .string ⟨#[]⟩, .int .u32 0, .int .i64 0, .slice none 0 0, .slice none 0 0] := by rw [← hw0]; exact Blk.new _ _ _
  have hq1 : ((t.k : Int) == 2) = false := by rw [hk]; rfl
  have hq2 : ((t.k : Int) == 1) = true := by rw [hk]; rfl
  have HN := Lib.hid (next w0 bp d t (u :: q) (hp.below hb0))
  have HTK := Lib.hid fun (w' : World) (hb : Below w0.heap.size w0 w') => take w' bp d t (u :: q) ((hp.below hb0).below hb) (by simp)
  have HB0 := Lib.hid hb0; have HB := Lib.hid hB; have HW := Lib.hid hw0; have HGR := Lib.hid hgr; have HKQ := Lib.hid hk
  have hlb := hB.lt
  clear hb0 hp hw0 hB hgr hg hk
  go_enter Tryz.func124, Tryz.ntmps124
  go_wp2_with fail
  rw [HW.out]
  refine HN.out.mono ?_
  rintro e w1 ⟨rfl, hb1⟩
  obtain ⟨w2, hw2⟩ : ∃ w2, w1.alloc (.cells #[.int .i64 (t.k : Int), .string ⟨t.s.toArray⟩, .int .i64 (t.at_ : Int)] 76) = w2 := ⟨_, rfl⟩
  have hb2 : Below w0.heap.size w0 w2 := by rw [← hw2]; exact hb1.alloc hb1.size _
  have hbt : Blk w2 w1.heap.size 76 #[.int .i64 (t.k : Int), .string ⟨t.s.toArray⟩, .int .i64 (t.at_ : Int)] := by rw [← hw2]; exact Blk.new _ _ _
  have HT2 := Lib.hid (HTK.out w2 hb2)
  have h01 : w0.heap.size ≤ w1.heap.size := hb1.size
  have HW2 := Lib.hid hw2; have HU2 := Lib.hid ((below_UB (bp := bp) HB0.out).trans (below_UB hb2)); have HBT := Lib.hid hbt; have HX2 := Lib.hid (HB.out.below hb2 HB.out.lt)
  clear hb1 hb2 hw2 HN hbt HTK
  go_wp2_with fail
  rw [HW2.out]
  refine HT2.out.mono ?_
  rintro e w3 ⟨rfl, hp3, hu3⟩
  have HI3 := Lib.hid (is_ w3 bp d u q [40] hp3)
  have HP3 := Lib.hid hp3
  have HU3 := Lib.hid (HU2.out.trans hu3); have HBT3 := Lib.hid (HBT.out.upd hu3 (by omega)); have HX3 := Lib.hid (HX2.out.upd hu3 (by omega))
  have h13 := (HBT.out.upd hu3 (show ¬ w1.heap.size = bp by omega)).lt
  clear hp3 hu3
  rw [hu] at HI3
  go_wp2_with fail
  refine HI3.out.mono ?_
  rintro e w4 ⟨rfl, hb4⟩
  have h34 : w3.heap.size ≤ w4.heap.size := hb4.size
  have HP4 := Lib.hid (HP3.out.below hb4); have HU4 := Lib.hid (HU3.out.trans (below_UB hb4)); have HBT4 := Lib.hid (HBT3.out.below hb4 h13); have HX4 := Lib.hid (HX3.out.below hb4 (by omega))
  clear hb4
  have hZ0 : K3 w1.heap.size t w4.drew := K3.of HBT4.out.drew
  have HAR := Lib.hid (arguments H w4.drew bp d u q hn hd ⟨HP4.out.ex⟩ HGR.out hu)
  have HU4d := Lib.hid (HU4.out.drew)
  have HBTd := Lib.hid HBT4.out.drew
  have HXd := Lib.hid HX4.out.drew
  have h0d : w.heap.size < w4.drew.heap.size := HX4.out.lt
  have h1d : w1.heap.size < w4.drew.heap.size := HBT4.out.lt
  clear hu
  go_upto_region 9 with fail
  refine HT.wp_region (Z := fun w' => K3 w1.heap.size t w') (S := fun _ => True) (st := []) (by kernel_rfl) ?_
  refine HT.takeP (i := 0) (v := ?_) rfl (by kernel_rfl) (by kernel_rfl) (by kernel_rfl) (by kernel_rfl) (fun _ _ _ h => h) (Or.inl ⟨by rfl, ?_⟩) hZ0 (fun _ => trivial) ?_
  rotate_left
  · (intro w hSw; obtain ⟨y0, y1, y2⟩ := hSw; go_simp; try with_reducible rfl)
  (try simp only [Act.put, List.getElem_toArray, List.getElem_cons_succ, List.getElem_cons_zero, List.setIfInBounds_toArray, List.set_cons_zero, List.set_cons_succ])
  refine HT.takeP (i := 1) (v := ?_) rfl (by kernel_rfl) (by kernel_rfl) (by kernel_rfl) (by kernel_rfl) (fun _ _ _ h => h) (Or.inl ⟨by rfl, ?_⟩) hZ0 (fun _ => trivial) ?_
  rotate_left
  · (intro w hSw; obtain ⟨y0, y1, y2⟩ := hSw; go_simp; try with_reducible rfl)
  (try simp only [Act.put, List.getElem_toArray, List.getElem_cons_succ, List.getElem_cons_zero, List.setIfInBounds_toArray, List.set_cons_zero, List.set_cons_succ])
  refine HT.takeP (i := 2) (v := ?_) rfl (by kernel_rfl) (by kernel_rfl) (by kernel_rfl) (by kernel_rfl) (fun _ _ _ h => h) (Or.inl ⟨by rfl, ?_⟩) hZ0 (fun _ => trivial) ?_
  rotate_left
  · (intro w hSw; obtain ⟨y0, y1, y2⟩ := hSw; go_simp; try with_reducible rfl)
  (try simp only [Act.put, List.getElem_toArray, List.getElem_cons_succ, List.getElem_cons_zero, List.setIfInBounds_toArray, List.set_cons_zero, List.set_cons_succ])
  refine HT.takeP (i := 3) (v := ?_) rfl (by kernel_rfl) (by kernel_rfl) (by kernel_rfl) (by kernel_rfl) (fun _ _ _ h => h) (Or.inl ⟨by rfl, ?_⟩) hZ0 (fun _ => trivial) ?_
  rotate_left
  · (intro w hSw; obtain ⟨y0, y1, y2⟩ := hSw; go_simp; try with_reducible rfl)
  (try simp only [Act.put, List.getElem_toArray, List.getElem_cons_succ, List.getElem_cons_zero, List.setIfInBounds_toArray, List.set_cons_zero, List.set_cons_succ])
  refine HT.takeP (i := 4) (v := ?_) rfl (by kernel_rfl) (by kernel_rfl) (by kernel_rfl) (by kernel_rfl) (fun _ _ _ h => h) (Or.inl ⟨by rfl, ?_⟩) hZ0 (fun _ => trivial) ?_
  rotate_left
  · (intro w hSw; obtain ⟨y0, y1, y2⟩ := hSw; go_simp; try with_reducible rfl)
  (try simp only [Act.put, List.getElem_toArray, List.getElem_cons_succ, List.getElem_cons_zero, List.setIfInBounds_toArray, List.set_cons_zero, List.set_cons_succ])
  refine HT.one (i := 5) (by kernel_rfl) rfl (fun K hK => ?_)
  go_simp
  refine HAR.out.mono ?_
  rintro e w5 (⟨g, c, xs, r', rfl, hA, hxl, hR, hP, hG, hr, hU⟩ | ⟨a, er, rfl, hR, hU⟩)
  rotate_left
  · exact ⟨rfl, .inr ⟨a, er, rfl, r_call hd HKQ.out hon (hR _ _), HU4d.out.trans hU⟩⟩
  have hB5 := HBTd.out.upd hU (show ¬ w1.heap.size = bp by omega)
  have HBT5 := Lib.hid hB5; have HX5 := Lib.hid (HXd.out.upd hU (by omega))
  have HA5 := Lib.hid hA; have HR5 := Lib.hid (hR t.at_ t.s); have HP5 := Lib.hid hP; have HG5 := Lib.hid hG; have HU5 := Lib.hid (HU4d.out.trans hU)
  have hr1 : r'.length < (t :: u :: q).length := by simp at hr ⊢; omega
  clear hA hR hP hG hU hZ0 hr hB5
  dsimp only
  refine hK.out _ _ (K3.of HBT5.out) trivial ?_
  clear hK K
  (try simp only [Act.put, List.getElem_toArray, List.getElem_cons_succ, List.getElem_cons_zero, List.setIfInBounds_toArray, List.set_cons_zero, List.set_cons_succ])
  have HN5 := Lib.hid (show Calls Tryz.prog 43 #[.int .i64 5, .string ⟨t.s.toArray⟩, .int .i64 (t.at_ : Int), .slice (some ⟨g, 0, none⟩) xs.length c] w5 _ from node w5 5 t.at_ t.s (some ⟨g, 0, none⟩) xs.length c)
  refine HT.one (i := 6) (by kernel_rfl) rfl (fun K hK => ?_)
  go_simp
  refine HN5.out.mono ?_
  rintro e w6 ⟨rfl, hb6⟩
  have HB6 := Lib.hid hb6
  have HX6 := Lib.hid (HX5.out.below hb6 HX5.out.lt)
  have HK6 := Lib.hid (HBT5.out.below hb6 HBT5.out.lt)
  clear hb6
  dsimp only
  refine hK.out _ _ (K3.of HK6.out) trivial ?_
  clear hK K
  (try simp only [Act.put, List.getElem_toArray, List.getElem_cons_succ, List.getElem_cons_zero, List.setIfInBounds_toArray, List.set_cons_zero, List.set_cons_succ])
  obtain ⟨⟨e0, e1, e2, e3, e4, e5⟩, z0, z1, z2, z3, z4, z5⟩ := Blk.c6 HX6.out
  have hne26 : w1.heap.size ≠ w.heap.size := by omega
  have HEND := Lib.hid (out_ok (R := Rd numV (.lev 5) d (t :: u :: q)) (l := t :: u :: q) hlt h0d (TIn.far (HA5.out.node (by omega) 5 t.at_ 0 t.s) (Upd.of_below HB6.out fun _ => False) (fun _ h => h.elim)) (r_call hd HKQ.out hon HR5.out) (HP5.out.below HB6.out) HG5.out hr1 (HU5.out.trans (below_UB HB6.out)))
  refine HT.one (i := 7) (by kernel_rfl) rfl (fun K hK => ?_)
  go_simp
  refine hK.out _ _ (K3.of (put6_far HK6.out hne26 _ _ _ _ _ _)) trivial ?_
  clear hK K
  refine HT.done (by kernel_rfl) ?_
  dsimp only [Exit.then]
  (try simp only [Act.put, List.getElem_toArray, List.getElem_cons_succ, List.getElem_cons_zero, List.setIfInBounds_toArray, List.set_cons_zero, List.set_cons_succ])
  go_wp2_with fail
  exact bodyPost_ret (resNd rfl rfl (Blk.put6 HX6.out _ _ _ _ _ _) rfl) rfl HEND.out
/-- primary, where it does not begin with ~ or -. -/
theorem primary {n : Nat} (H : ExC n) (w : World) (bp d : Nat) (t : Tk) (r : List Tk) (hn : r.length ≤ n) (hd : d ≤ 60) (hp : PS w bp (t :: r) d) (hg : Gt (t :: r)) (h1 : (isS [126] t || isS [45] t) = false) :
    Calls Tryz.prog 124 #[.pointer (some ⟨bp, 0, none⟩)] w (OutP w bp d (t :: r) (Rd numV (.lev 5) d (t :: r))) := by
  by_cases h2 : t.k = 2
  · exact prim_num w bp d t r hd hp hg h2
  by_cases h3 : t.k = 1
  · obtain ⟨u, q, rfl⟩ := et_ne hg.et (by omega)
    simp only [List.length_cons] at hn
    cases hu : (u.s == [40])
    · exact prim_name w bp d t u q hd hp hg h3 hu
    · exact prim_call H w bp d t u q (by omega) hd hp hg h3 hu
  · cases hc : (t.s == [40])
    · exact prim_no w bp d t r hd hp hg h1 h2 h3 hc
    · exact prim_par H w bp d t r hn hd hp hg hc
set_option maxRecDepth 100000 in
set_option maxHeartbeats 4000000 in
theorem unary_no {n : Nat} (H : ExC n) (w : World) (bp d : Nat) (t : Tk) (r : List Tk) (hn : r.length ≤ n) (hd : d ≤ 60) (hp : PS w bp (t :: r) d) (hg : Gt (t :: r)) (h1 : (isS [126] t || isS [45] t) = false) :
    Calls Tryz.prog 115 #[.pointer (some ⟨bp, 0, none⟩)] w (OutP w bp d (t :: r) (Rd numV (.lev 5) d (t :: r))) := by
  have hlt := hp.lt
  obtain ⟨w0, hw0⟩ : ∃ w0, w.alloc (.cells #[.int .i64 0, .string ⟨#[]⟩, .int .u32 0, .int .i64 0, .slice none 0 0, .slice none 0 0] 26) = w0 := ⟨_, rfl⟩
  have hb0 : Below w.heap.size w w0 := by rw [← hw0]; exact (Below.refl _ _).alloc (Nat.le_refl _) _
  have hB : Blk w0 w.heap.size 26 #[.int .i64 0, .string ⟨#[]⟩, .int .u32 0, .int .i64 0, .slice none 0 0, .slice none 0 0] := by rw [← hw0]; exact Blk.new _ _ _
  have hq1 : (t.s == [126]) = false ∧ (t.s == [45]) = false := by
    rw [isS_eq hg.hd (by decide), isS_eq hg.hd (by decide)] at h1
    simpa using h1
  have hi1 := is_ w0 bp d t r [126] (hp.below hb0)
  rw [hq1.1] at hi1
  have HI1 := Lib.hid hi1
  have HI2 := Lib.hid fun (w' : World) (hb : Below w0.heap.size w0 w') => is_ w' bp d t r [45] ((hp.below hb0).below hb)
  have HPR := Lib.hid fun (w' : World) (hb : Below w0.heap.size w0 w') => primary H w' bp d t r hn hd ((hp.below hb0).below hb) hg h1
  have HB0 := Lib.hid hb0; have HB := Lib.hid hB; have HW := Lib.hid hw0; have HQ := Lib.hid hq1.2
  clear hb0 hp hw0 hB hg h1 hi1 hq1
  go_enter Tryz.func115, Tryz.ntmps115
  go_wp2_with fail
  rw [HW.out]
  refine HI1.out.mono ?_
  rintro e w1 ⟨rfl, hb1⟩
  have hi2 := HI2.out w1 hb1
  rw [HQ.out] at hi2
  have HI3 := Lib.hid hi2; have HB1 := Lib.hid hb1
  clear hb1 hi2 HI1 HI2
  go_wp2_with fail
  refine HI3.out.mono ?_
  rintro e w2 ⟨rfl, hb2⟩
  have HB2 := Lib.hid (HB1.out.trans (hb2.mono HB1.out.size))
  clear hb2 HI3
  have HP2 := Lib.hid (HPR.out w2 HB2.out)
  clear HPR
  go_wp2_with fail
  refine HP2.out.mono ?_
  rintro e w3 (⟨k, a, s, m, A, la, cA, B, lb, cB, x, r', rfl, hT, hR, hP, hG, hr, hU⟩ | ⟨a, er, rfl, hR, hU⟩)
  · have h02 := HB2.out.size
    have hlb := HB.out.lt
    have hX := (HB.out.below HB2.out HB.out.lt).upd hU (show ¬ w.heap.size = bp by omega)
    obtain ⟨⟨e0, e1, e2, e3, e4, e5⟩, z0, z1, z2, z3, z4, z5⟩ := Blk.c6 hX
    have HX := Lib.hid hX; have HT := Lib.hid hT; have HR := Lib.hid hR; have HP := Lib.hid hP; have HG := Lib.hid hG; have HU := Lib.hid hU
    clear hX hT hR hP hG hU
    go_wp2_with fail
    exact bodyPost_ret (resNd rfl rfl (Blk.put6 HX.out _ _ _ _ _ _) rfl) rfl (out_ok hlt (by omega) HT.out HR.out HP.out HG.out hr (((below_UB HB0.out).trans (below_UB HB2.out)).trans HU.out))
  · have HR := Lib.hid hR; have HU := Lib.hid hU
    clear hR hU
    go_wp2_with fail
    exact ⟨rfl, .inr ⟨a, er, rfl, HR.out, ((below_UB HB0.out).trans (below_UB HB2.out)).trans HU.out⟩⟩
/-- unary, of at most n + 1 tokens, where expr serves n. -/
theorem unary {n : Nat} (H : ExC n) : ∀ m, m ≤ n + 1 → UnC m
  | 0, _ => fun w bp d l hl hd hp hg => by
    obtain ⟨t, r, rfl⟩ := hg.cons
    simp at hl
  | m + 1, hm => fun w bp d l hl hd hp hg => by
    obtain ⟨t, r, rfl⟩ := hg.cons
    simp only [List.length_cons] at hl
    cases ht : (isS [126] t || isS [45] t)
    · exact unary_no H w bp d t r (by omega) hd hp hg ht
    · exact unary_go (unary H m (by omega)) w bp d t r (by omega) hd hp hg ht
end Go.Proofs.YtpoepignpdfleaaGreatDoor.Pa
