/- DERIVED. PaFn in one text. By an AI agent. -/
import Derived.Test.YtpoepignpdfleaaGreatDoorZ27
/- DERIVED. The contract of package parse's function. By an AI agent. -/
namespace Go.Proofs.YtpoepignpdfleaaGreatDoor.Pa
open Go Go.ChangeShapes Go.WideShapes Go.ChangeAt Go.RowKit Lx Args
set_option linter.unusedVariables false
set_option linter.unusedSimpArgs false
attribute [local go_sem] fTk0 fTk1 fTk2
section
variable {num : Bs → Nat × Nat} {a d : Nat} {t u v v2 : Tk} {r r4 r5 : List Tk} {ps : List Bs}
theorem fn1 (h1 : t.k ≠ 1) : Ev (fun f => FnK num f a d (t :: r)) (.bad t.at_ 100) := ev_eq (ev_now _) fun _ => name_n h1 _
theorem fn2 (h1 : t.k = 1) (h2 : isS [40] u = false) : Ev (fun f => FnK num f a d (t :: u :: r)) (.bad u.at_ 100) := ev_eq (ev_now _) fun _ => (name_y h1 _).trans (must_n h2 _)
theorem fn3 {p : Nat} (h1 : t.k = 1) (h2 : isS [40] u = true) (h3 : ∀ f, namesK [] r f = some (.bad p 100)) : Ev (fun f => FnK num f a d (t :: u :: r)) (.bad p 100) := ev_eq (ev_now _) fun _ => (name_y h1 _).trans ((must_y h2 _).trans (h3 _))
theorem fn4 (h1 : t.k = 1) (h2 : isS [40] u = true) (h3 : ∀ f, namesK [] r f = f ps (v :: r4)) (h4 : isS [41] v = false) : Ev (fun f => FnK num f a d (t :: u :: r)) (.bad v.at_ 100) :=
  ev_eq (ev_now _) fun _ => (name_y h1 _).trans ((must_y h2 _).trans ((h3 _).trans (must_n h4 _)))
theorem fn5 (h1 : t.k = 1) (h2 : isS [40] u = true) (h3 : ∀ f, namesK [] r f = f ps (v :: v2 :: r5)) (h4 : isS [41] v = true) (h5 : isS [61] v2 = false) : Ev (fun f => FnK num f a d (t :: u :: r)) (.bad v2.at_ 100) :=
  ev_eq (ev_now _) fun _ => (name_y h1 _).trans ((must_y h2 _).trans ((h3 _).trans ((must_y h4 _).trans (must_n h5 _))))
theorem fn6 {o : Out} (h1 : t.k = 1) (h2 : isS [40] u = true) (h3 : ∀ f, namesK [] r f = f ps (v :: v2 :: r5)) (h4 : isS [41] v = true) (h5 : isS [61] v2 = true) (h : Rd num (.fin 12 a t.s ps) d r5 o) : Ev (fun f => FnK num f a d (t :: u :: r)) o :=
  ev_eq h fun _ => (name_y h1 _).trans ((must_y h2 _).trans ((h3 _).trans ((must_y h4 _).trans (must_y h5 _))))
end
set_option maxRecDepth 100000 in
set_option maxHeartbeats 8000000 in
theorem function (w : World) (bp d : Nat) (q : Tk) (l : List Tk) (hd : d ≤ 60) (hp : PS w bp (q :: l) d) (hg : Gt (q :: l)) (hq : isS [102, 110] q = true) :
    Calls Tryz.prog 63 #[.pointer (some ⟨bp, 0, none⟩)] w (OutP w bp d (q :: l) (fun o => Ev (fun f => FnK numV f q.at_ d l) o)) := by
  have hlt := hp.lt
  obtain ⟨w0, hw0⟩ : ∃ w0, w.alloc (.cells #[.int .i64 0, .string ⟨#[]⟩, .int .u32 0, .int .i64 0, .slice none 0 0, .slice none 0 0] 26) = w0 := ⟨_, rfl⟩
  have hb0 : Below w.heap.size w w0 := by rw [← hw0]; exact (Below.refl _ _).alloc (Nat.le_refl _) _
  have hB : Blk w0 w.heap.size 26 #[.int .i64 0, .string ⟨#[]⟩, .int .u32 0, .int .i64 0, .slice none 0 0, .slice none 0 0] := by rw [← hw0]; exact Blk.new _ _ _
  have HM0 := Lib.hid (must_ w0 bp d q l [102, 110] (hp.below hb0) hg (by decide))
  have HU0 := Lib.hid (below_UB (bp := bp) hb0); have HB := Lib.hid hB; have HW := Lib.hid hw0
  have hlb := hB.lt
  clear hb0 hp hw0 hB hg
  go_enter Tryz.func63, Tryz.ntmps63
  go_wp2_with fail
  rw [HW.out]
  refine HM0.out.mono ?_
  rintro e wa (⟨hq', rfl, hpa, hga, hua⟩ | ⟨hq', rfl, hua⟩)
  rotate_left
  · rw [hq] at hq'; cases hq'
  obtain ⟨t, r, rfl⟩ := hga.cons
  have HN := Lib.hid (name_ wa bp d t r hpa hga)
  have HUa := Lib.hid (HU0.out.trans hua); have HXa := Lib.hid (HB.out.upd hua (by omega))
  have h0a := hua.size
  clear hpa hga hua hq'
  go_wp2_with fail
  refine HN.out.mono ?_
  rintro e w1 (⟨hk, rfl, hp1, hg1, hu1⟩ | ⟨hk, rfl, hu1⟩)
  rotate_left
  · have HU1 := Lib.hid (HUa.out.trans hu1)
    clear hu1
    go_wp2_with fail
    exact ⟨rfl, .inr ⟨_, _, rfl, fn1 hk, HU1.out⟩⟩
  obtain ⟨u, r1, rfl⟩ := hg1.cons
  have HM := Lib.hid (must_ w1 bp d u r1 [40] hp1 hg1 (by decide))
  have HU1 := Lib.hid (HUa.out.trans hu1); have HX1 := Lib.hid (HXa.out.upd hu1 (by omega))
  have h01 := hu1.size
  clear hp1 hg1 hu1
  go_wp2_with fail
  refine HM.out.mono ?_
  rintro e w2 (⟨hu, rfl, hp2, hg2, hu2⟩ | ⟨hu, rfl, hu2⟩)
  rotate_left
  · have HU2 := Lib.hid (HU1.out.trans hu2)
    clear hu2
    go_wp2_with fail
    exact ⟨rfl, .inr ⟨_, _, rfl, fn2 hk hu, HU2.out⟩⟩
  have HNA := Lib.hid (names w2 bp d r1 hp2 hg2)
  have HU2 := Lib.hid (HU1.out.trans hu2); have HX2 := Lib.hid (HX1.out.upd hu2 (by omega)); have HG2 := Lib.hid hg2
  have h12 := hu2.size
  clear hp2 hg2 hu2
  go_wp2_with fail
  refine HNA.out.mono ?_
  rintro e w3 (⟨ps, r4, g, c, rfl, hR, hP, hE, hs, hr4, hL, hgl, hpl, hU⟩ | ⟨p, rfl, hR, hU⟩)
  rotate_left
  · have HR := Lib.hid (fn3 (num := numV) (a := q.at_) (d := d) hk hu hR); have HU3 := Lib.hid (HU2.out.trans hU)
    clear hR hU
    go_wp2_with fail
    exact ⟨rfl, .inr ⟨_, _, rfl, HR.out, HU3.out⟩⟩
  have hg3 := HG2.out.suf hE hs
  obtain ⟨v, r5, rfl⟩ := hg3.cons
  have HM3 := Lib.hid (must_ w3 bp d v r5 [41] hP hg3 (by decide))
  have HU3 := Lib.hid (HU2.out.trans hU); have HX3 := Lib.hid (HX2.out.upd hU (by omega)); have HR3 := Lib.hid hR; have HL3 := Lib.hid hL
  have h23 := hU.size
  clear hP hE hs hL hU hR hg3
  go_wp2_with fail
  refine HM3.out.mono ?_
  rintro e w4 (⟨hv, rfl, hp4, hg4, hu4⟩ | ⟨hv, rfl, hu4⟩)
  rotate_left
  · have HR := Lib.hid (fn4 (num := numV) (a := q.at_) (d := d) hk hu HR3.out hv); have HU4 := Lib.hid (HU3.out.trans hu4)
    clear hu4
    go_wp2_with fail
    exact ⟨rfl, .inr ⟨_, _, rfl, HR.out, HU4.out⟩⟩
  obtain ⟨v2, r6, rfl⟩ := hg4.cons
  have HM4 := Lib.hid (must_ w4 bp d v2 r6 [61] hp4 hg4 (by decide))
  have HU4 := Lib.hid (HU3.out.trans hu4); have HX4 := Lib.hid (HX3.out.upd hu4 (by omega)); have HL4 := Lib.hid (hu4.lies HL3.out fun b o e _ e2 => by cases e; omega)
  have h34 := hu4.size
  clear hp4 hg4 hu4
  go_wp2_with fail
  refine HM4.out.mono ?_
  rintro e w5 (⟨hv2, rfl, hp5, hg5, hu5⟩ | ⟨hv2, rfl, hu5⟩)
  rotate_left
  · have HR := Lib.hid (fn5 (num := numV) (a := q.at_) (d := d) hk hu HR3.out hv hv2); have HU5 := Lib.hid (HU4.out.trans hu5)
    clear hu5
    go_wp2_with fail
    exact ⟨rfl, .inr ⟨_, _, rfl, HR.out, HU5.out⟩⟩
  have HE5 := Lib.hid (ex r6.length w5 bp d r6 (Nat.le_refl _) hd hp5 hg5)
  have HU5 := Lib.hid (HU4.out.trans hu5); have HX5 := Lib.hid (HX4.out.upd hu5 (by omega)); have HL5 := Lib.hid (hu5.lies HL4.out fun b o e _ e2 => by cases e; omega)
  have h45 := hu5.size
  clear hp5 hg5 hu5
  go_wp2_with fail
  refine HE5.out.mono ?_
  rintro e w6 (⟨kx, ax, sx, nx, A, la, cA, B, lb, cB, x, r7, rfl, hT, hR, hP, hG, hr, hU⟩ | ⟨a1, er, rfl, hR, hU⟩)
  rotate_left
  · have HR := Lib.hid (fn6 (a := q.at_) hk hu HR3.out hv hv2 (r_fin_bad hR)); have HU6 := Lib.hid (HU5.out.trans hU)
    clear hR hU
    go_wp2_with fail
    exact ⟨rfl, .inr ⟨_, _, rfl, HR.out, HU6.out⟩⟩
  have h56 := hU.size
  obtain ⟨w7, hw7⟩ : ∃ w7, w6.alloc (.cells #[.int .i64 (kx : Int), .string ⟨sx.toArray⟩, .int .u32 (nx : Int), .int .i64 (ax : Int), .slice A la cA, .slice B lb cB] 26) = w7 := ⟨_, rfl⟩
  have hb7 : Below w6.heap.size w6 w7 := by rw [← hw7]; exact (Below.refl _ _).alloc (Nat.le_refl _) _
  have hT7 : TIn (fun b => w.heap.size + 1 ≤ b) w7 (.mk 12 q.at_ t.s 0 [] [x]) (ndC 12 q.at_ t.s 0 (some ⟨w6.heap.size, 0, none⟩) 1 1 none 0 0) := by
    rw [← hw7]
    exact (nd_one hT h56 26 12 q.at_ t.s).up (by omega)
  have hx5 := HX5.out.lt
  have hL7 : Lies w7 (some ⟨g, 0, none⟩) (ps.map strV) := (hU.trans (below_UB hb7)).lies HL5.out fun b o e _ e2 => by cases e; omega
  have HT7 := Lib.hid (tIn_with (c := c) hT7 hL7 (by omega) (by omega))
  have HN7 := Lib.hid (show Calls Tryz.prog 43 #[.int .i64 12, .string ⟨t.s.toArray⟩, .int .i64 (q.at_ : Int), .slice (some ⟨w6.heap.size, 0, none⟩) 1 1] w7 _ from node w7 12 q.at_ t.s (some ⟨w6.heap.size, 0, none⟩) 1 1)
  have HX7 := Lib.hid ((HX5.out.upd hU (by omega)).below hb7 (by omega))
  have HU7 := Lib.hid ((HU5.out.trans hU).trans (below_UB hb7))
  have HP7 := Lib.hid (hP.below hb7); have HG7 := Lib.hid hG; have HR7 := Lib.hid hR; have HW7 := Lib.hid hw7
  clear hT hR hP hG hU hT7 hw7 hb7 hL7
  go_wp2_with fail
  rw [HW7.out]
  refine HN7.out.mono ?_
  rintro e w8 ⟨rfl, hb8⟩
  obtain ⟨z, r8, rfl⟩ := HG7.out.cons
  obtain ⟨w9, hw9⟩ : ∃ w9, w8.alloc (.cells #[.int .i64 12, .string ⟨t.s.toArray⟩, .int .u32 0, .int .i64 (q.at_ : Int), .slice (some ⟨w6.heap.size, 0, none⟩) 1 1, .slice (some ⟨g, 0, none⟩) ps.length c] 26) = w9 := ⟨_, rfl⟩
  have hb89 : Below w8.heap.size w8 w9 := by rw [← hw9]; exact (Below.refl _ _).alloc (Nat.le_refl _) _
  have hb9 : Below w7.heap.size w7 w9 := hb8.trans (hb89.mono hb8.size)
  have hbn : Blk w9 w8.heap.size 26 #[.int .i64 12, .string ⟨t.s.toArray⟩, .int .u32 0, .int .i64 (q.at_ : Int), .slice (some ⟨w6.heap.size, 0, none⟩) 1 1, .slice (some ⟨g, 0, none⟩) ps.length c] := by rw [← hw9]; exact Blk.new _ _ _
  have h78 := hb8.size
  have hx7 := HX7.out.lt
  have HM9 := Lib.hid (must_ w9 bp d z r8 [59] (HP7.out.below hb9) HG7.out (by decide))
  have HX9 := Lib.hid (HX7.out.below hb9 HX7.out.lt); have HU9 := Lib.hid (HU7.out.trans (below_UB hb9)); have HT9 := Lib.hid (HT7.out.upd (Upd.of_below hb9 fun _ => False) (fun _ _ h => h))
  have HBN := Lib.hid hbn; have HW9 := Lib.hid hw9
  have hp7l := HP7.out.lt
  clear hb8 hb89 hb9 hbn hw9
  go_wp2_with fail
  rw [HW9.out]
  refine HM9.out.mono ?_
  rintro e wz (⟨hz, rfl, hpz, hgz, huz⟩ | ⟨hz, rfl, huz⟩)
  rotate_left
  · have HRz := Lib.hid (fn6 (a := q.at_) hk hu HR3.out hv hv2 (r_fin_end HR7.out hz)); have HUz := Lib.hid (HU9.out.trans huz)
    clear huz
    go_wp2_with fail
    exact ⟨rfl, .inr ⟨_, _, rfl, HRz.out, HUz.out⟩⟩
  have HRz := Lib.hid (fn6 (a := q.at_) hk hu HR3.out hv hv2 (r_fin HR7.out hz))
  have hX := HX9.out.upd huz (show ¬ w.heap.size = bp by omega)
  have hY := HBN.out.upd huz (show ¬ w8.heap.size = bp by omega)
  obtain ⟨⟨e0, e1, e2, e3, e4, e5⟩, z0, z1, z2, z3, z4, z5⟩ := Blk.c6 hX
  obtain ⟨⟨g0, g1, g2, g3, g4, g5⟩, y0, y1, y2, y3, y4, y5⟩ := Blk.c6 hY
  have HXz := Lib.hid hX; have HPz := Lib.hid hpz; have HGz := Lib.hid hgz
  have hlr : r8.length < (q :: t :: u :: r1).length := by simp at hr hr4 ⊢; omega
  have HTz := Lib.hid (HT9.out.upd huz fun b hb e => by omega); have HUz := Lib.hid (HU9.out.trans huz)
  clear hX hY hpz hgz huz
  go_wp2_with fail
  exact bodyPost_ret (resNd rfl rfl (Blk.put6 HXz.out _ _ _ _ _ _) rfl) rfl (out_ok hlt (Nat.lt_succ_self _) HTz.out HRz.out HPz.out HGz.out hlr HUz.out)
end Go.Proofs.YtpoepignpdfleaaGreatDoor.Pa
