/- DERIVED. PaSe, PaIn in one text. By an AI agent. -/
import Derived.Test.YtkdpndoollbggaaDoorZ21
/- DERIVED. The contract of package parse's set. By an AI agent. -/
namespace Go.Proofs.YtkdpndoollbggaaDoor.Pa
open Go Go.ChangeShapes Go.WideShapes Go.ChangeAt Go.RowKit Lx Args
set_option linter.unusedVariables false
set_option linter.unusedSimpArgs false
attribute [local go_sem] fTk0 fTk1 fTk2
def MuP (w : World) (bp d : Nat) (b : Bs) (t : Tk) (r : List Tk) (e : Ending) (w' : World) : Prop :=
  (isS b t = true ∧ e = .returned (.agg #[.int .i64 (t.k : Int), .string ⟨t.s.toArray⟩, .int .i64 (t.at_ : Int)]) ∧ PS w' bp r d ∧ Gt r ∧ UB bp w w') ∨ (isS b t = false ∧ e = panV t.at_ 100 ∧ UB bp w w')
theorem must_ (w : World) (bp d : Nat) (t : Tk) (r : List Tk) (b : Bs) (hp : PS w bp (t :: r) d) (hg : Gt (t :: r)) (hb : litB b = true) :
    Calls Tryd.prog 40 #[.pointer (some ⟨bp, 0, none⟩), .string ⟨b.toArray⟩] w (MuP w bp d b t r) := by
  have he := isS_eq hg.hd hb
  cases hq : (t.s == b)
  · exact (must_no w bp d t r b hp hq).mono fun e w' h => .inr ⟨by rw [he, hq], h.1, h.2⟩
  · have hk : t.k ≠ 0 := by
      have := okt_lit hg.hd (by rw [eq_of_beq hq]; exact hb)
      omega
    have hgr := hg.tail hk
    obtain ⟨t2, r2, hr2⟩ := hgr.cons
    exact (must_yes w bp d t r b hp hq (by rw [hr2]; simp)).mono fun e w' h => .inl ⟨by rw [he, hq], h.1, h.2.1, hgr, h.2.2⟩
def NaP (w : World) (bp d : Nat) (t : Tk) (r : List Tk) (e : Ending) (w' : World) : Prop :=
  (t.k = 1 ∧ e = .returned (.string ⟨t.s.toArray⟩) ∧ PS w' bp r d ∧ Gt r ∧ UB bp w w') ∨ (t.k ≠ 1 ∧ e = panV t.at_ 100 ∧ UB bp w w')
theorem name_ (w : World) (bp d : Nat) (t : Tk) (r : List Tk) (hp : PS w bp (t :: r) d) (hg : Gt (t :: r)) :
    Calls Tryd.prog 41 #[.pointer (some ⟨bp, 0, none⟩)] w (NaP w bp d t r) := by
  by_cases hk : t.k = 1
  · have hgr := hg.tail (by omega)
    obtain ⟨t2, r2, hr2⟩ := hgr.cons
    exact (name_yes w bp d t r hp hk (by rw [hr2]; simp)).mono fun e w' h => .inl ⟨hk, h.1, h.2.1, hgr, h.2.2⟩
  · exact (name_no w bp d t r hp hk).mono fun e w' h => .inr ⟨hk, h.1, h.2⟩
theorem set_no {num : Bs → Nat × Nat} {k a d : Nat} {t : Tk} {r : List Tk} (ht : t.k ≠ 1) : Ev (fun f => SetK num f k a d (t :: r)) (.bad t.at_ 100) := ev_eq (ev_now _) fun _ => name_n ht _
theorem set_eq {num : Bs → Nat × Nat} {k a d : Nat} {t u : Tk} {r : List Tk} (ht : t.k = 1) (hu : isS [61] u = false) : Ev (fun f => SetK num f k a d (t :: u :: r)) (.bad u.at_ 100) :=
  ev_eq (ev_now _) fun _ => (name_y ht _).trans (must_n hu _)
theorem set_fin {num : Bs → Nat × Nat} {k a d : Nat} {t u : Tk} {r : List Tk} {o : Out} (ht : t.k = 1) (hu : isS [61] u = true) (h : Rd num (.fin k a t.s []) d r o) : Ev (fun f => SetK num f k a d (t :: u :: r)) o :=
  ev_eq h fun _ => (name_y ht _).trans (must_y hu _)
set_option maxRecDepth 100000 in
set_option maxHeartbeats 8000000 in
theorem set (k a : Nat) (w : World) (bp d : Nat) (l : List Tk) (hd : d ≤ 60) (hp : PS w bp l d) (hg : Gt l) :
    Calls Tryd.prog 31 #[.pointer (some ⟨bp, 0, none⟩), .int .i64 (k : Int), .int .i64 (a : Int)] w (OutP w bp d l (fun o => Ev (fun f => SetK numV f k a d l) o)) := by
  have hlt := hp.lt
  obtain ⟨t, r, rfl⟩ := hg.cons
  obtain ⟨w0, hw0⟩ : ∃ w0, w.alloc (.cells #[.int .i64 0, .string ⟨#[]⟩, .int .u32 0, .int .i64 0, .slice none 0 0, .slice none 0 0] 27) = w0 := ⟨_, rfl⟩
  have hb0 : Below w.heap.size w w0 := by rw [← hw0]; exact (Below.refl _ _).alloc (Nat.le_refl _) _
  have hB : Blk w0 w.heap.size 27 #[.int .i64 0, .string ⟨#[]⟩, .int .u32 0, .int .i64 0, .slice none 0 0, .slice none 0 0] := by rw [← hw0]; exact Blk.new _ _ _
  have HN := Lib.hid (name_ w0 bp d t r (hp.below hb0) hg)
  have HU0 := Lib.hid (below_UB (bp := bp) hb0); have HB := Lib.hid hB; have HW := Lib.hid hw0
  have hlb := hB.lt
  clear hb0 hp hw0 hB hg
  go_enter Tryd.func31, Tryd.ntmps31
  go_wp2_with fail
  rw [HW.out]
  refine HN.out.mono ?_
  rintro e w1 (⟨hk, rfl, hp1, hg1, hu1⟩ | ⟨hk, rfl, hu1⟩)
  rotate_left
  · have HU1 := Lib.hid (HU0.out.trans hu1)
    clear hu1
    go_wp2_with fail
    exact ⟨rfl, .inr ⟨_, _, rfl, set_no hk, HU1.out⟩⟩
  obtain ⟨u, r1, rfl⟩ := hg1.cons
  have HM := Lib.hid (must_ w1 bp d u r1 [61] hp1 hg1 (by decide))
  have HU1 := Lib.hid (HU0.out.trans hu1); have HX1 := Lib.hid (HB.out.upd hu1 (by omega))
  have h01 := hu1.size
  clear hp1 hg1 hu1
  go_wp2_with fail
  refine HM.out.mono ?_
  rintro e w2 (⟨hu, rfl, hp2, hg2, hu2⟩ | ⟨hu, rfl, hu2⟩)
  rotate_left
  · have HU2 := Lib.hid (HU1.out.trans hu2)
    clear hu2
    go_wp2_with fail
    exact ⟨rfl, .inr ⟨_, _, rfl, set_eq hk hu, HU2.out⟩⟩
  have HE := Lib.hid (ex r1.length w2 bp d r1 (Nat.le_refl _) hd hp2 hg2)
  have HU2 := Lib.hid (HU1.out.trans hu2); have HX2 := Lib.hid (HX1.out.upd hu2 (by omega))
  have h12 := hu2.size
  clear hp2 hg2 hu2
  go_wp2_with fail
  refine HE.out.mono ?_
  rintro e w3 (⟨kx, ax, sx, nx, A, la, cA, B, lb, cB, x, r3, rfl, hT, hR, hP, hG, hr, hU⟩ | ⟨a1, er, rfl, hR, hU⟩)
  rotate_left
  · have HR := Lib.hid (set_fin (k := k) (a := a) hk hu (r_fin_bad hR)); have HU3 := Lib.hid (HU2.out.trans hU)
    clear hR hU
    go_wp2_with fail
    exact ⟨rfl, .inr ⟨_, _, rfl, HR.out, HU3.out⟩⟩
  have h23 := hU.size
  obtain ⟨w4, hw4⟩ : ∃ w4, w3.alloc (.cells #[.int .i64 (kx : Int), .string ⟨sx.toArray⟩, .int .u32 (nx : Int), .int .i64 (ax : Int), .slice A la cA, .slice B lb cB] 27) = w4 := ⟨_, rfl⟩
  have hb4 : Below w3.heap.size w3 w4 := by rw [← hw4]; exact (Below.refl _ _).alloc (Nat.le_refl _) _
  have hT4 : TIn (fun b => w.heap.size + 1 ≤ b) w4 (.mk k a t.s 0 [] [x]) (ndC k a t.s 0 (some ⟨w3.heap.size, 0, none⟩) 1 1 none 0 0) := by
    rw [← hw4]
    exact (nd_one hT h23 27 k a t.s).up (by omega)
  have HN4 := Lib.hid (node w4 k a t.s (some ⟨w3.heap.size, 0, none⟩) 1 1)
  have HX4 := Lib.hid ((HX2.out.upd hU (by omega)).below hb4 (by have := (HX2.out.upd hU (show ¬ w.heap.size = bp by omega)).lt; omega))
  have HU4 := Lib.hid ((HU2.out.trans hU).trans (below_UB hb4))
  have HP4 := Lib.hid (hP.below hb4); have HG4 := Lib.hid hG; have HT4 := Lib.hid hT4; have HR := Lib.hid hR; have HW4 := Lib.hid hw4
  clear hT hR hP hG hU hT4 hw4 hb4
  go_wp2_with fail
  rw [HW4.out]
  refine HN4.out.mono ?_
  rintro e w5 ⟨rfl, hb5⟩
  obtain ⟨v, r4, rfl⟩ := HG4.out.cons
  obtain ⟨w6, hw6⟩ : ∃ w6, w5.alloc (.cells #[.int .i64 (k : Int), .string ⟨t.s.toArray⟩, .int .u32 0, .int .i64 (a : Int), .slice (some ⟨w3.heap.size, 0, none⟩) 1 1, .slice none 0 0] 27) = w6 := ⟨_, rfl⟩
  have hb56 : Below w5.heap.size w5 w6 := by rw [← hw6]; exact (Below.refl _ _).alloc (Nat.le_refl _) _
  have hb6 : Below w4.heap.size w4 w6 := hb5.trans (hb56.mono hb5.size)
  have hbn : Blk w6 w5.heap.size 27 #[.int .i64 (k : Int), .string ⟨t.s.toArray⟩, .int .u32 0, .int .i64 (a : Int), .slice (some ⟨w3.heap.size, 0, none⟩) 1 1, .slice none 0 0] := by rw [← hw6]; exact Blk.new _ _ _
  have h45 := hb5.size
  have hx4 := HX4.out.lt
  have HM6 := Lib.hid (must_ w6 bp d v r4 [59] (HP4.out.below hb6) HG4.out (by decide))
  have HX6 := Lib.hid (HX4.out.below hb6 HX4.out.lt); have HU6 := Lib.hid (HU4.out.trans (below_UB hb6)); have HT6 := Lib.hid (HT4.out.upd (Upd.of_below hb6 fun _ => False) (fun _ _ h => h))
  have HBN := Lib.hid hbn; have HW6 := Lib.hid hw6
  have hp4l := HP4.out.lt
  clear hb5 hb56 hb6 hbn hw6
  go_wp2_with fail
  rw [HW6.out]
  refine HM6.out.mono ?_
  rintro e w7 (⟨hv, rfl, hp7, hg7, hu7⟩ | ⟨hv, rfl, hu7⟩)
  rotate_left
  · have HR7 := Lib.hid (set_fin (k := k) (a := a) hk hu (r_fin_end HR.out hv)); have HU7 := Lib.hid (HU6.out.trans hu7)
    clear hu7
    go_wp2_with fail
    exact ⟨rfl, .inr ⟨_, _, rfl, HR7.out, HU7.out⟩⟩
  have HR7 := Lib.hid (set_fin (k := k) (a := a) hk hu (r_fin HR.out hv))
  have hX := HX6.out.upd hu7 (show ¬ w.heap.size = bp by omega)
  have hY := HBN.out.upd hu7 (show ¬ w5.heap.size = bp by omega)
  obtain ⟨⟨e0, e1, e2, e3, e4, e5⟩, z0, z1, z2, z3, z4, z5⟩ := Blk.c6 hX
  obtain ⟨⟨g0, g1, g2, g3, g4, g5⟩, y0, y1, y2, y3, y4, y5⟩ := Blk.c6 hY
  have HX7 := Lib.hid hX; have HP7 := Lib.hid hp7; have HG7 := Lib.hid hg7
  have hlr : r4.length < (t :: u :: r1).length := by simp at hr ⊢; omega
  have HT7 := Lib.hid (HT6.out.upd hu7 fun b hb e => by omega); have HU7 := Lib.hid (HU6.out.trans hu7)
  clear hX hY hp7 hg7 hu7
  go_wp2_with fail
  exact bodyPost_ret (resNd rfl rfl (Blk.put6 HX7.out _ _ _ _ _ _) rfl) rfl (out_ok hlt (Nat.lt_succ_self _) HT7.out HR7.out HP7.out HG7.out hlr HU7.out)
end Go.Proofs.YtkdpndoollbggaaDoor.Pa
/- DERIVED. Contracts of package parse's inputs and function. By an AI agent. -/
namespace Go.Proofs.YtkdpndoollbggaaDoor.Pa
open Go Go.ChangeShapes Go.WideShapes Go.ChangeAt Go.RowKit Lx Args
set_option linter.unusedVariables false
set_option linter.unusedSimpArgs false
attribute [local go_sem] fTk0 fTk1 fTk2
/-- Names are laid behind a node. -/
theorem tIn_with {N : Nat → Prop} {w : World} {k a n la cA : Nat} {s : Bs} {l : List Tr} {A : Option Addr} {B0 : Option Addr} {lb cB : Nat} (h : TIn N w (.mk k a s n [] l) (ndC k a s n A la cA B0 lb cB)) {ps : List Bs} {g c : Nat} (hL : Lies w (some ⟨g, 0, none⟩) (ps.map strV)) (hps : ps.length ≤ 100000) (hN : N g) :
    TIn N w (.mk k a s n ps l) (ndC k a s n A la cA (some ⟨g, 0, none⟩) ps.length c) := by
  unfold TIn at h ⊢
  obtain ⟨A1, cA1, B1, cB1, h1, h2, _, _, _, h6⟩ := h
  unfold ndC at h1
  simp only [List.cons.injEq, Value.slice.injEq, true_and, and_true] at h1
  obtain ⟨⟨rfl, rfl, rfl⟩, _⟩ := h1
  exact ⟨_, _, _, _, rfl, h2, hps, hL, fun b o e _ => (by cases e; exact hN), h6⟩
theorem in_bad {k a p : Nat} {r : List Tk} (h : ∀ f, namesK [] r f = some (.bad p 100)) : InK k a r = some (.bad p 100) := h _
theorem in_end {k a : Nat} {r r4 : List Tk} {ps : List Bs} {v : Tk} (h : ∀ f, namesK [] r f = f ps (v :: r4)) (hv : isS [59] v = false) : InK k a r = some (.bad v.at_ 100) := (h _).trans (must_n hv _)
theorem in_ok {k a : Nat} {r r4 : List Tk} {ps : List Bs} {v : Tk} (h : ∀ f, namesK [] r f = f ps (v :: r4)) (hv : isS [59] v = true) : InK k a r = some (.ok [.mk k a [] 0 ps []] r4) := (h _).trans (must_y hv _)
set_option maxRecDepth 100000 in
set_option maxHeartbeats 8000000 in
theorem inputs (k : Nat) (w : World) (bp d : Nat) (t : Tk) (r : List Tk) (hp : PS w bp (t :: r) d) (hg : Gt (t :: r)) (hk : t.k ≠ 0) :
    Calls Tryd.prog 30 #[.pointer (some ⟨bp, 0, none⟩), .int .i64 (k : Int)] w (OutP w bp d (t :: r) (fun o => InK k t.at_ r = some o)) := by
  have hlt := hp.lt
  have hgr := hg.tail hk
  obtain ⟨t2, r2, hr2⟩ := hgr.cons
  obtain ⟨w0, hw0⟩ : ∃ w0, w.alloc (.cells #[.int .i64 0, .string ⟨#[]⟩, .int .u32 0, .int .i64 0, .slice none 0 0, .slice none 0 0] 27) = w0 := ⟨_, rfl⟩
  have hb0 : Below w.heap.size w w0 := by rw [← hw0]; exact (Below.refl _ _).alloc (Nat.le_refl _) _
  have hB : Blk w0 w.heap.size 27 #[.int .i64 0, .string ⟨#[]⟩, .int .u32 0, .int .i64 0, .slice none 0 0, .slice none 0 0] := by rw [← hw0]; exact Blk.new _ _ _
  have HT := Lib.hid (take w0 bp d t r (hp.below hb0) (by rw [hr2]; simp))
  have HU0 := Lib.hid (below_UB (bp := bp) hb0); have HB := Lib.hid hB; have HW := Lib.hid hw0; have HGR := Lib.hid hgr
  have hlb := hB.lt
  clear hb0 hp hw0 hB hg hr2 hgr hk
  go_enter Tryd.func30, Tryd.ntmps30
  go_wp2_with fail
  rw [HW.out]
  refine HT.out.mono ?_
  rintro e w1 ⟨rfl, hp1, hu1⟩
  have HNO := Lib.hid (show Calls Tryd.prog 26 #[.int .i64 (k : Int), .string ⟨#[]⟩, .int .i64 (t.at_ : Int), .slice none 0 0] w1 _ from node w1 k t.at_ [] none 0 0)
  have HU1 := Lib.hid (HU0.out.trans hu1); have HX1 := Lib.hid (HB.out.upd hu1 (by omega)); have HP1 := Lib.hid hp1
  have h01 := hu1.size
  clear hp1 hu1
  go_wp2_with fail
  refine HNO.out.mono ?_
  rintro e w2 ⟨rfl, hb2⟩
  obtain ⟨w3, hw3⟩ : ∃ w3, w2.alloc (.cells #[.int .i64 (k : Int), .string ⟨#[]⟩, .int .u32 0, .int .i64 (t.at_ : Int), .slice none 0 0, .slice none 0 0] 27) = w3 := ⟨_, rfl⟩
  have hb23 : Below w2.heap.size w2 w3 := by rw [← hw3]; exact (Below.refl _ _).alloc (Nat.le_refl _) _
  have hb3 : Below w1.heap.size w1 w3 := hb2.trans (hb23.mono hb2.size)
  have hbn : Blk w3 w2.heap.size 27 #[.int .i64 (k : Int), .string ⟨#[]⟩, .int .u32 0, .int .i64 (t.at_ : Int), .slice none 0 0, .slice none 0 0] := by rw [← hw3]; exact Blk.new _ _ _
  have h12 := hb2.size
  have h1p := HP1.out.lt
  have HNA := Lib.hid (names w3 bp d r (HP1.out.below hb3) HGR.out)
  have HU3 := Lib.hid (HU1.out.trans (below_UB hb3)); have HX3 := Lib.hid (HX1.out.below hb3 HX1.out.lt); have HBN := Lib.hid hbn; have HW3 := Lib.hid hw3
  clear hb2 hb23 hb3 hbn hw3
  go_wp2_with fail
  rw [HW3.out]
  refine HNA.out.mono ?_
  rintro e w4 (⟨ps, r4, g, c, rfl, hR, hP, hE, hs, hr, hL, hgl, hpl, hU⟩ | ⟨a, rfl, hR, hU⟩)
  rotate_left
  · have HR := Lib.hid (in_bad (k := k) (a := t.at_) hR); have HU4 := Lib.hid (HU3.out.trans hU)
    clear hR hU
    go_wp2_with fail
    exact ⟨rfl, .inr ⟨_, _, rfl, HR.out, HU4.out⟩⟩
  have hg4 := HGR.out.suf hE hs
  obtain ⟨v, r5, rfl⟩ := hg4.cons
  have hbn3 := HBN.out.lt
  have hY4 := HBN.out.upd hU (show ¬ w2.heap.size = bp by omega)
  obtain ⟨w5, hw5⟩ : ∃ w5, w4.setCell ⟨w2.heap.size, 5, none⟩ (.slice (some ⟨g, 0, none⟩) ps.length c) = w5 := ⟨_, rfl⟩
  have hu5 : Upd (fun b => b = w2.heap.size) w4 w5 := by rw [← hw5]; exact (Upd.refl (fun b => b = w2.heap.size) w4).setCell (fun _ => rfl) _
  have hY5 : Blk w5 w2.heap.size 27 #[.int .i64 (k : Int), .string ⟨#[]⟩, .int .u32 0, .int .i64 (t.at_ : Int), .slice none 0 0, .slice (some ⟨g, 0, none⟩) ps.length c] := by rw [← hw5]; exact hY4.set 5 _
  have hT5 : TIn (fun b => w.heap.size + 1 ≤ b) w5 (.mk k t.at_ [] 0 ps []) (ndC k t.at_ [] 0 none 0 0 (some ⟨g, 0, none⟩) ps.length c) := tIn_with (tIn_leaf w5 k t.at_ 0 []) (hu5.lies hL fun b o e hl e2 => by cases e; omega) (by omega) (by omega)
  obtain ⟨⟨e0, e1, e2, e3, e4, e5⟩, z0, z1, z2, z3, z4, z5⟩ := Blk.c6 hY4
  have HM5 := Lib.hid (must_ w5 bp d v r5 [59] (hP.far hu5 fun b hb => by omega) hg4 (by decide))
  have HX5 := Lib.hid ((HX3.out.upd hU (by omega)).upd hu5 (by omega)); have HY5 := Lib.hid hY5; have HT5 := Lib.hid hT5; have HR := Lib.hid hR; have HW5 := Lib.hid hw5
  have HU5 : Hid (UB bp w w5) := Lib.hid (by rw [← hw5]; exact (HU3.out.trans hU).setCell (fun h => absurd h (by show ¬ w2.heap.size < w.heap.size; omega)) _)
  clear hY4 hY5 hT5 hu5 hw5 hP hE hs hL hU hR hg4
  go_wp2_with fail
  rw [HW5.out]
  refine HM5.out.mono ?_
  rintro e w6 (⟨hv, rfl, hp6, hg6, hu6⟩ | ⟨hv, rfl, hu6⟩)
  rotate_left
  · have HR6 := Lib.hid (in_end (k := k) (a := t.at_) HR.out hv); have HU6 := Lib.hid (HU5.out.trans hu6)
    clear hu6
    go_wp2_with fail
    exact ⟨rfl, .inr ⟨_, _, rfl, HR6.out, HU6.out⟩⟩
  have HR6 := Lib.hid (in_ok (k := k) (a := t.at_) HR.out hv)
  clear e0 e1 e2 e3 e4 e5 z0 z1 z2 z3 z4 z5
  have hX := HX5.out.upd hu6 (show ¬ w.heap.size = bp by omega)
  have hY := HY5.out.upd hu6 (show ¬ w2.heap.size = bp by omega)
  obtain ⟨⟨e0, e1, e2, e3, e4, e5⟩, z0, z1, z2, z3, z4, z5⟩ := Blk.c6 hX
  obtain ⟨⟨g0, g1, g2, g3, g4, g5⟩, y0, y1, y2, y3, y4, y5⟩ := Blk.c6 hY
  have HX6 := Lib.hid hX; have HP6 := Lib.hid hp6; have HG6 := Lib.hid hg6
  have hlr : r5.length < (t :: r).length := by simp at hr ⊢; omega
  have HT6 := Lib.hid (HT5.out.upd hu6 fun b hb e => by omega); have HU6 := Lib.hid (HU5.out.trans hu6)
  clear hX hY hp6 hg6 hu6
  go_wp2_with fail
  exact bodyPost_ret (resNd rfl rfl (Blk.put6 HX6.out _ _ _ _ _ _) rfl) rfl (out_ok hlt (Nat.lt_succ_self _) HT6.out HR6.out HP6.out HG6.out hlr HU6.out)
end Go.Proofs.YtkdpndoollbggaaDoor.Pa
