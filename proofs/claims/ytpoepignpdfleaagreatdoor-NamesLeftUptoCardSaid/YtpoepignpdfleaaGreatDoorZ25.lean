/- DERIVED. PaPr in one text. By an AI agent. -/
import Derived.Test.YtpoepignpdfleaaGreatDoorZ24
/- DERIVED. The contract of package parse's primary: numbers, brackets, nothing. By an AI agent. -/
namespace Go.Proofs.YtpoepignpdfleaaGreatDoor.Pa
open Go Go.ChangeShapes Go.WideShapes Go.ChangeAt Go.RowKit Lx Args
set_option linter.unusedVariables false
set_option linter.unusedSimpArgs false
attribute [local go_sem] fTk0 fTk1 fTk2
set_option maxRecDepth 100000 in
set_option maxHeartbeats 4000000 in
theorem prim_num (w : World) (bp d : Nat) (t : Tk) (r : List Tk) (hd : d ≤ 60) (hp : PS w bp (t :: r) d) (hg : Gt (t :: r)) (hk : t.k = 2) :
    Calls Tryz.prog 124 #[.pointer (some ⟨bp, 0, none⟩)] w (OutP w bp d (t :: r) (Rd numV (.lev 5) d (t :: r))) := by
  have hlt := hp.lt
  have hgr := hg.tail (by omega)
  obtain ⟨t2, r2, hr2⟩ := hgr.cons
  have hne : r ≠ [] := by rw [hr2]; simp
  obtain ⟨w0, hw0⟩ : ∃ w0, w.alloc (.cells #[.int .i64 0, .string ⟨#[]⟩, .int .u32 0, .int .i64 0, .slice none 0 0, .slice none 0 0] 26) = w0 := ⟨_, rfl⟩
  have hb0 : Below w.heap.size w w0 := by rw [← hw0]; exact (Below.refl _ _).alloc (Nat.le_refl _) _
  have hB : Blk w0 w.heap.size 26 #[.int .i64 0, .string ⟨#[]⟩, .int .u32 0, .int .i64 0, .slice none 0 0, .slice none 0 0] := by rw [← hw0]; exact Blk.new _ _ _
  have hn := next w0 bp d t r (hp.below hb0)
  have HKQ := Lib.hid hk
  have hq : ((t.k : Int) == 2) = true := by rw [hk]; rfl
  have HN := Lib.hid hn
  have HNU := Lib.hid fun (w' : World) (hb : Below w0.heap.size w0 w') => number w' bp d t r ((hp.below hb0).below hb) (hg.ok t (List.mem_cons_self ..)).2 hne
  have HB0 := Lib.hid hb0; have HB := Lib.hid hB; have HW := Lib.hid hw0; have HGR := Lib.hid hgr
  clear hb0 hp hw0 hB hgr hr2 hg hk hn hne
  go_enter Tryz.func124, Tryz.ntmps124
  go_wp2_with fail
  rw [HW.out]
  refine HN.out.mono ?_
  rintro e w1 ⟨rfl, hb1⟩
  obtain ⟨w2, hw2⟩ : ∃ w2, w1.alloc (.cells #[.int .i64 (t.k : Int), .string ⟨t.s.toArray⟩, .int .i64 (t.at_ : Int)] 76) = w2 := ⟨_, rfl⟩
  have hb2 : Below w0.heap.size w0 w2 := by rw [← hw2]; exact hb1.alloc hb1.size _
  have HW2 := Lib.hid hw2; have HB2 := Lib.hid hb2
  have HNO := Lib.hid (show Calls Tryz.prog 43 #[.int .i64 0, .string ⟨#[]⟩, .int .i64 (t.at_ : Int), .slice none 0 0] w2 _ from node w2 0 t.at_ [] none 0 0)
  clear hb1 hb2 hw2 HN
  go_wp2_with fail
  rw [HW2.out]
  refine HNO.out.mono ?_
  rintro e w3 ⟨rfl, hb3⟩
  obtain ⟨w4, hw4⟩ : ∃ w4, w3.alloc (.cells #[.int .i64 0, .string ⟨#[]⟩, .int .u32 0, .int .i64 (t.at_ : Int), .slice none 0 0, .slice none 0 0] 26) = w4 := ⟨_, rfl⟩
  have hb34 : Below w3.heap.size w3 w4 := by rw [← hw4]; exact (Below.refl _ _).alloc (Nat.le_refl _) _
  have hb4 : Below w0.heap.size w0 w4 := (HB2.out.trans (hb3.mono HB2.out.size)).trans (hb34.mono (Nat.le_trans HB2.out.size hb3.size))
  have hbn : Blk w4 w3.heap.size 26 #[.int .i64 0, .string ⟨#[]⟩, .int .u32 0, .int .i64 (t.at_ : Int), .slice none 0 0, .slice none 0 0] := by rw [← hw4]; exact Blk.new _ _ _
  have HU4 := Lib.hid (HNU.out w4 hb4)
  have HW4 := Lib.hid hw4; have HBN := Lib.hid hbn; have HB4 := Lib.hid hb4
  have h03 : w0.heap.size ≤ w3.heap.size := Nat.le_trans HB2.out.size hb3.size
  clear hb3 hb34 hb4 hw4 hbn HNO HNU
  go_wp2_with fail
  rw [HW4.out]
  refine HU4.out.mono ?_
  rintro e w5 (⟨hnv, rfl, hp5, hu5⟩ | ⟨hnv, he, hu5⟩)
  · have hX : Blk w5 w.heap.size 26 _ := (HB.out.below HB4.out HB.out.lt).upd hu5 (by omega)
    have hlb := HB.out.lt
    have hY := HBN.out.upd hu5 (show ¬ w3.heap.size = bp by omega)
    obtain ⟨⟨e0, e1, e2, e3, e4, e5⟩, z0, z1, z2, z3, z4, z5⟩ := Blk.c6 hX
    obtain ⟨⟨g0, g1, g2, g3, g4, g5⟩, y0, y1, y2, y3, y4, y5⟩ := Blk.c6 hY
    have hxy : w3.heap.size ≠ w.heap.size := by omega
    have HX := Lib.hid hX; have HY := Lib.hid hY; have HP5 := Lib.hid hp5; have HU5 := Lib.hid hu5; have HNV := Lib.hid hnv
    clear hX hY hp5 hu5 hnv
    go_wp2_with fail
    have hu6 : Upd (fun b => bp < b) w5 (w5.setCell ⟨w3.heap.size, 2, none⟩ (.int .u32 ((numV t.s).1 : Int))) := (Upd.refl (fun b => bp < b) w5).setCell (fun _ => by show bp < w3.heap.size; omega) _
    have hu7 : UB bp w (w5.setCell ⟨w3.heap.size, 2, none⟩ (.int .u32 ((numV t.s).1 : Int))) := (((below_UB HB0.out).trans (below_UB HB4.out)).trans HU5.out).setCell (fun h => absurd h (by show ¬ w3.heap.size < w.heap.size; omega)) _
    refine bodyPost_ret (resNd rfl rfl (Blk.put6 (HX.out.far (Ne.symm hxy) _) _ _ _ _ _ _) rfl) rfl ?_
    exact out_ok (lo := w.heap.size + 1) hlt (by omega) (tIn_leaf _ 0 t.at_ (numV t.s).1 []) (r_num hd HKQ.out HNV.out) (HP5.out.far hu6 fun _ h => h) HGR.out (by simp) hu7
  · have hbad := r_num_bad (num := numV) (r := r) hd HKQ.out hnv
    generalize (if (numV t.s).2 = 4 then 100 else 150) = er at he hbad
    subst he
    have HU5 := Lib.hid hu5; have HBAD := Lib.hid hbad
    clear hu5 hnv hbad
    go_wp2_with fail
    exact ⟨rfl, .inr ⟨_, _, rfl, HBAD.out, ((below_UB HB0.out).trans (below_UB HB4.out)).trans HU5.out⟩⟩
theorem tIn_place {N : Nat → Prop} {w : World} {x : Tr} {k a s n A la cA B lb cB} (h : TIn N w x (ndC k a s n A la cA B lb cB)) (a' : Nat) : TIn N w (x.put a') (ndC k a' s n A la cA B lb cB) := by
  cases x with
  | mk k1 a1 s1 n1 ps l =>
    show TIn N w (.mk k1 a' s1 n1 ps l) _
    unfold TIn at h ⊢
    obtain ⟨A1, cA1, B1, cB1, h1, h2⟩ := h
    refine ⟨A1, cA1, B1, cB1, ?_, h2⟩
    unfold ndC at h1 ⊢
    simp only [List.cons.injEq] at h1 ⊢
    exact ⟨h1.1, h1.2.1, h1.2.2.1, trivial, h1.2.2.2.2⟩
set_option maxRecDepth 100000 in
set_option maxHeartbeats 4000000 in
theorem prim_par {n : Nat} (H : ExC n) (w : World) (bp d : Nat) (t : Tk) (r : List Tk) (hn : r.length ≤ n) (hd : d ≤ 60) (hp : PS w bp (t :: r) d) (hg : Gt (t :: r)) (hc : (t.s == [40]) = true) :
    Calls Tryz.prog 124 #[.pointer (some ⟨bp, 0, none⟩)] w (OutP w bp d (t :: r) (Rd numV (.lev 5) d (t :: r))) := by
  have hlt := hp.lt
  have hon : isS [40] t = true := by rw [isS_eq hg.hd (by decide)]; exact hc
  have hk : 2 < t.k := okt_lit hg.hd (by rw [eq_of_beq hc]; decide)
  have hgr := hg.tail (by omega)
  obtain ⟨t2, r2, hr2⟩ := hgr.cons
  have hne : r ≠ [] := by rw [hr2]; simp
  obtain ⟨w0, hw0⟩ : ∃ w0, w.alloc (.cells #[.int .i64 0, .string ⟨#[]⟩, .int .u32 0, .int .i64 0, .slice none 0 0, .slice none 0 0] 26) = w0 := ⟨_, rfl⟩
  have hb0 : Below w.heap.size w w0 := by rw [← hw0]; exact (Below.refl _ _).alloc (Nat.le_refl _) _
  have hB : Blk w0 w.heap.size 26 #[.int .i64 0, .string ⟨#[]⟩, .int .u32 0, .int .i64 0, .slice none 0 0, .slice none 0 0] := by rw [← hw0]; exact Blk.new _ _ _
  have hq1 : ((t.k : Int) == 2) = false := by simp; omega
  have hq2 : ((t.k : Int) == 1) = false := by simp; omega
  have HN := Lib.hid (next w0 bp d t r (hp.below hb0))
  have HTK := Lib.hid fun (w' : World) (hb : Below w0.heap.size w0 w') => take w' bp d t r ((hp.below hb0).below hb) hne
  have HB0 := Lib.hid hb0; have HB := Lib.hid hB; have HW := Lib.hid hw0; have HGR := Lib.hid hgr
  have hlb := hB.lt
  clear hb0 hp hw0 hB hgr hr2 hg hk hne
  go_enter Tryz.func124, Tryz.ntmps124
  go_wp2_with fail
  rw [HW.out]
  refine HN.out.mono ?_
  rintro e w1 ⟨rfl, hb1⟩
  obtain ⟨w2, hw2⟩ : ∃ w2, w1.alloc (.cells #[.int .i64 (t.k : Int), .string ⟨t.s.toArray⟩, .int .i64 (t.at_ : Int)] 76) = w2 := ⟨_, rfl⟩
  have hb2 : Below w0.heap.size w0 w2 := by rw [← hw2]; exact hb1.alloc hb1.size _
  have hbt : Blk w2 w1.heap.size 76 #[.int .i64 (t.k : Int), .string ⟨t.s.toArray⟩, .int .i64 (t.at_ : Int)] := by rw [← hw2]; exact Blk.new _ _ _
  have HT2 := Lib.hid (HTK.out w2 hb2)
  have h01 : w0.heap.size ≤ w1.heap.size := hb1.size
  have HW2 := Lib.hid hw2; have HU2 := Lib.hid ((below_UB (bp := bp) HB0.out).trans (below_UB hb2)); have HBT := Lib.hid hbt; have HX2 := Lib.hid (HB.out.below hb2 HB.out.lt)
  clear hb1 hb2 hw2 HN hbt HTK
  go_wp2_with fail
  rw [HW2.out]
  refine HT2.out.mono ?_
  rintro e w3 ⟨rfl, hp3, hu3⟩
  have HE3 := Lib.hid (within_e H w3 bp d r hn hd hp3 HGR.out)
  have HU3 := Lib.hid (HU2.out.trans hu3); have HBT3 := Lib.hid (HBT.out.upd hu3 (by omega)); have HX3 := Lib.hid (HX2.out.upd hu3 (by omega))
  have h13 := (HBT.out.upd hu3 (show ¬ w1.heap.size = bp by omega)).lt
  clear hp3 hu3
  go_wp2_with fail
  refine HE3.out.mono ?_
  rintro e w4 (⟨k, a, s, m, A, la, cA, B, lb, cB, x, r', rfl, hT, hR, hP, hG, hr, hU⟩ | ⟨a, er, rfl, hR, hU⟩)
  rotate_left
  · have HR := Lib.hid hR; have HU := Lib.hid (HU3.out.trans hU)
    clear hR hU
    go_wp2_with fail
    exact ⟨rfl, .inr ⟨a, er, rfl, r_par_bad hd hon HR.out, HU.out⟩⟩
  obtain ⟨u, r5, rfl⟩ := hG.cons
  obtain ⟨w5, hw5⟩ : ∃ w5, w4.alloc (.cells #[.int .i64 (k : Int), .string ⟨s.toArray⟩, .int .u32 (m : Int), .int .i64 (a : Int), .slice A la cA, .slice B lb cB] 26) = w5 := ⟨_, rfl⟩
  have hb5 : Below w4.heap.size w4 w5 := by rw [← hw5]; exact (Below.refl _ _).alloc (Nat.le_refl _) _
  have hbn : Blk w5 w4.heap.size 26 #[.int .i64 (k : Int), .string ⟨s.toArray⟩, .int .u32 (m : Int), .int .i64 (a : Int), .slice A la cA, .slice B lb cB] := by rw [← hw5]; exact Blk.new _ _ _
  have h34 := hU.size
  have h45 := hbn.lt
  have HT5 := Lib.hid ((hT.mono (N' := fun b => w.heap.size + 1 ≤ b ∧ b ≠ w4.heap.size) fun b hb hs => ⟨by omega, by omega⟩).upd (Upd.of_below hb5 fun _ => False) (fun _ _ h => h)); have HR5 := Lib.hid hR; have HG5 := Lib.hid hG; have HU5 := Lib.hid ((HU3.out.trans hU).trans (below_UB hb5))
  have HBT5 := Lib.hid ((HBT3.out.upd hU (by omega)).below hb5 (by omega)); have HX5 := Lib.hid ((HX3.out.upd hU (by omega)).below hb5 (by omega))
  have HBN := Lib.hid hbn; have HW5 := Lib.hid hw5
  have hp5 := hP.below hb5
  have h4b : bp < w4.heap.size := hP.lt
  simp only [List.length_cons] at hr
  by_cases hv : (u.s == [41]) = true
  · have hku : u.k ≠ 0 := by
      have := okt_lit hG.hd (by rw [eq_of_beq hv]; decide)
      omega
    have hgr5 := hG.tail hku
    obtain ⟨t6, r6, hr6⟩ := hgr5.cons
    have HM := Lib.hid (must_yes w5 bp d u r5 [41] hp5 hv (by rw [hr6]; simp))
    have hon2 : isS [41] u = true := by rw [isS_eq hG.hd (by decide)]; exact hv
    have HGR5 := Lib.hid hgr5
    clear hv hgr5 hr6 hw5 hb5 hbn hT hR hP hG hU hp5 hku
    go_wp2_with fail
    rw [HW5.out]
    refine HM.out.mono ?_
    rintro e w6 ⟨rfl, hp6, hu6⟩
    have hX := HX5.out.upd hu6 (show ¬ w.heap.size = bp by omega)
    have hY := HBN.out.upd hu6 (show ¬ w4.heap.size = bp by omega)
    have hZ := HBT5.out.upd hu6 (show ¬ w1.heap.size = bp by omega)
    obtain ⟨⟨e0, e1, e2, e3, e4, e5⟩, z0, z1, z2, z3, z4, z5⟩ := Blk.c6 hX
    obtain ⟨⟨g0, g1, g2, g3, g4, g5⟩, y0, y1, y2, y3, y4, y5⟩ := Blk.c6 hY
    obtain ⟨f0, f1, f2, x0, x1, x2⟩ := Blk.c3 hZ
    have hxy : w4.heap.size ≠ w.heap.size := by omega
    have HX := Lib.hid hX; have HP6 := Lib.hid hp6; have HU6 := Lib.hid hu6
    clear hX hY hZ hp6 hu6
    go_wp2_with fail
    have hs6 : Upd (fun b => b = w4.heap.size) w6 (w6.setCell ⟨w4.heap.size, 3, none⟩ (.int .i64 (t.at_ : Int))) := (Upd.refl (fun b => b = w4.heap.size) w6).setCell (fun _ => rfl) _
    refine bodyPost_ret (resNd rfl rfl (Blk.put6 (HX.out.far (Ne.symm hxy) _) _ _ _ _ _ _) rfl) rfl ?_
    have hT7 := tIn_place (HT5.out.upd HU6.out fun b hb e => by omega) t.at_
    exact out_ok hlt (Nat.lt_succ_self _) ((hT7.upd hs6 fun b hb e => hb.2 e).mono fun b hb _ => hb.1) (r_par hd hon HR5.out hon2) (HP6.out.far hs6 fun b hb => by omega) HGR5.out (by simp; omega) ((HU5.out.trans HU6.out).setCell (fun h => absurd h (by show ¬ w4.heap.size < w.heap.size; omega)) _)
  · have hv' : (u.s == [41]) = false := by simpa using hv
    have HM := Lib.hid (must_no w5 bp d u r5 [41] hp5 hv')
    have hon2 : isS [41] u = false := by rw [isS_eq hG.hd (by decide)]; exact hv'
    clear hv hv' hw5 hb5 hbn hT hR hP hG hU hp5
    go_wp2_with fail
    rw [HW5.out]
    refine HM.out.mono ?_
    rintro e w6 ⟨rfl, hu6⟩
    have HU6 := Lib.hid hu6
    clear hu6
    go_wp2_with fail
    exact ⟨rfl, .inr ⟨_, _, rfl, r_par_end hd hon HR5.out hon2, HU5.out.trans HU6.out⟩⟩
set_option maxRecDepth 100000 in
set_option maxHeartbeats 4000000 in
theorem prim_no (w : World) (bp d : Nat) (t : Tk) (r : List Tk) (hd : d ≤ 60) (hp : PS w bp (t :: r) d) (hg : Gt (t :: r)) (h1 : (isS [126] t || isS [45] t) = false) (h2 : t.k ≠ 2) (h3 : t.k ≠ 1) (hc : (t.s == [40]) = false) :
    Calls Tryz.prog 124 #[.pointer (some ⟨bp, 0, none⟩)] w (OutP w bp d (t :: r) (Rd numV (.lev 5) d (t :: r))) := by
  have hon : isS [40] t = false := by rw [isS_eq hg.hd (by decide)]; exact hc
  have hR := r_nothing (num := numV) (r := r) hd h1 h2 hon h3
  obtain ⟨w0, hw0⟩ : ∃ w0, w.alloc (.cells #[.int .i64 0, .string ⟨#[]⟩, .int .u32 0, .int .i64 0, .slice none 0 0, .slice none 0 0] 26) = w0 := ⟨_, rfl⟩
  have hb0 : Below w.heap.size w w0 := by rw [← hw0]; exact (Below.refl _ _).alloc (Nat.le_refl _) _
  have hq1 : ((t.k : Int) == 2) = false := by simp; omega
  have hq2 : ((t.k : Int) == 1) = false := by simp; omega
  have HN := Lib.hid (next w0 bp d t r (hp.below hb0))
  have HH := Lib.hid fun (w' : World) (hb : Below w0.heap.size w0 w') => here w' bp d t r 100 ((hp.below hb0).below hb)
  have HB0 := Lib.hid hb0; have HW := Lib.hid hw0; have HR := Lib.hid hR
  clear hb0 hp hw0 hg hR hon h1 h2 h3
  go_enter Tryz.func124, Tryz.ntmps124
  go_wp2_with fail
  rw [HW.out]
  refine HN.out.mono ?_
  rintro e w1 ⟨rfl, hb1⟩
  obtain ⟨w2, hw2⟩ : ∃ w2, w1.alloc (.cells #[.int .i64 (t.k : Int), .string ⟨t.s.toArray⟩, .int .i64 (t.at_ : Int)] 76) = w2 := ⟨_, rfl⟩
  have hb2 : Below w0.heap.size w0 w2 := by rw [← hw2]; exact hb1.alloc hb1.size _
  have HH2 := Lib.hid (HH.out w2 hb2)
  have HW2 := Lib.hid hw2; have HU2 := Lib.hid ((below_UB (bp := bp) HB0.out).trans (below_UB hb2))
  clear hb1 hb2 hw2 HN HH
  go_wp2_with fail
  rw [HW2.out]
  refine HH2.out.mono ?_
  rintro e w3 ⟨rfl, hb3⟩
  have HU3 := Lib.hid (HU2.out.trans (below_UB hb3))
  clear hb3
  go_wp2_with fail
  exact ⟨rfl, .inr ⟨_, _, rfl, HR.out, HU3.out⟩⟩
end Go.Proofs.YtpoepignpdfleaaGreatDoor.Pa
