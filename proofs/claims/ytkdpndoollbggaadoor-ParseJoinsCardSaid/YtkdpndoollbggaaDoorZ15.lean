/- DERIVED. PaNd in one text. By an AI agent. -/
import Derived.Test.YtkdpndoollbggaaDoorZ05
import Derived.Test.YtkdpndoollbggaaDoorZ14
/- DERIVED. What a function that reads hands back; package parse's within and expr. By an AI agent. -/
namespace Go.Proofs.YtkdpndoollbggaaDoor.Pa
open Go Go.ChangeShapes Go.WideShapes Go.ChangeAt Go.RowKit Lx Args
set_option linter.unusedVariables false
set_option linter.unusedSimpArgs false
attribute [local go_sem] fTk0 fTk1 fTk2
/-- A tree, what is left, and where it lies; or what is given up with. R: what is read. -/
def OutP (w : World) (bp d : Nat) (l : List Tk) (R : Out → Prop) (e : Ending) (w' : World) : Prop :=
  (∃ k a s n A la cA B lb cB x r, e = .returned (.agg #[.int .i64 (k : Nat), .string ⟨(s : Bs).toArray⟩, .int .u32 (n : Nat), .int .i64 (a : Nat), .slice A la cA, .slice B lb cB]) ∧ TIn (fun b => w.heap.size ≤ b) w' x (ndC k a s n A la cA B lb cB) ∧ R (.ok [x] r) ∧
    PS w' bp r d ∧ Gt r ∧ r.length < l.length ∧ UB bp w w') ∨
  (∃ a er, e = panV a er ∧ R (.bad a er) ∧ UB bp w w')
theorem OutP.imp {w : World} {bp d : Nat} {l : List Tk} {R R' : Out → Prop} {e : Ending} {w' : World} (h : OutP w bp d l R e w') (hR : ∀ o, R o → R' o) : OutP w bp d l R' e w' := by
  rcases h with ⟨k, a, s, n, A, la, cA, B, lb, cB, x, r, h1, h2, h3, h4⟩ | ⟨a, er, h1, h2, h3⟩
  · exact .inl ⟨k, a, s, n, A, la, cA, B, lb, cB, x, r, h1, h2, hR _ h3, h4⟩
  · exact .inr ⟨a, er, h1, hR _ h2, h3⟩
theorem TIn.up {lo lo' : Nat} {w : World} {x : Tr} {c : List Value} (h : TIn (fun b => lo ≤ b) w x c) (hl : lo' ≤ lo) : TIn (fun b => lo' ≤ b) w x c := h.mono fun b hb _ => Nat.le_trans hl hb
theorem TIn.far {X : Nat → Prop} {lo : Nat} {w w' : World} {x : Tr} {c : List Value} (h : TIn (fun b => lo ≤ b) w x c) (hu : Upd X w w') (hX : ∀ b, X b → b < lo) : TIn (fun b => lo ≤ b) w' x c := h.upd hu fun b hb hx => by have := hX b hx; omega
/-- The result's box is full. -/
theorem out_ok {w w1 : World} {bp d lo : Nat} {l r : List Tk} {R : Out → Prop} {k a n la cA lb cB : Nat} {s : Bs} {A B : Option Addr} {x : Tr} (hlt : bp < w.heap.size) (hg : w.heap.size < lo) (hT : TIn (fun b => lo ≤ b) w1 x (ndC k a s n A la cA B lb cB)) (hR : R (.ok [x] r)) (hP : PS w1 bp r d) (hG : Gt r) (hr : r.length < l.length) (hU : UB bp w w1) :
    OutP w bp d l R (.returned (.agg #[.int .i64 (k : Int), .string ⟨s.toArray⟩, .int .u32 (n : Int), .int .i64 (a : Int), .slice A la cA, .slice B lb cB])) (put6 w1 w.heap.size (.int .i64 (k : Int)) (.string ⟨s.toArray⟩) (.int .u32 (n : Int)) (.int .i64 (a : Int)) (.slice A la cA) (.slice B lb cB)) := by
  have hu : Upd (fun b => b = w.heap.size) w1 (put6 w1 w.heap.size (.int .i64 (k : Int)) (.string ⟨s.toArray⟩) (.int .u32 (n : Int)) (.int .i64 (a : Int)) (.slice A la cA) (.slice B lb cB)) := put6_upd (X := fun b => b = w.heap.size) (Upd.refl _ _) (fun _ => rfl) _ _ _ _ _ _
  refine .inl ⟨k, a, s, n, A, la, cA, B, lb, cB, x, r, rfl, ?_, hR, hP.far hu fun b hb => by omega, hG, hr, ?_⟩
  · exact (TIn.far hT hu fun b hb => by omega).up (Nat.le_of_lt hg)
  · exact put6_upd hU (fun h => absurd h (Nat.lt_irrefl _)) _ _ _ _ _ _
set_option maxRecDepth 100000 in
set_option maxHeartbeats 2000000 in
theorem expr (w : World) (bp d : Nat) (l : List Tk) (hp : PS w bp l d)
    (hS : ∀ w0, PS w0 bp l d → Calls Tryd.prog 35 #[.pointer (some ⟨bp, 0, none⟩), .int .i64 1] w0 (OutP w0 bp d l (Rd numV (.lev 0) d l))) :
    Calls Tryd.prog 28 #[.pointer (some ⟨bp, 0, none⟩)] w (OutP w bp d l (Rd numV (.lev 0) d l)) := by
  obtain ⟨w0, hw0⟩ : ∃ w0, w.alloc (.cells #[.int .i64 0, .string ⟨#[]⟩, .int .u32 0, .int .i64 0, .slice none 0 0, .slice none 0 0] 27) = w0 := ⟨_, rfl⟩
  have hb0 : Below w.heap.size w w0 := by rw [← hw0]; exact (Below.refl _ _).alloc (Nat.le_refl _) _
  have hB : Blk w0 w.heap.size 27 #[.int .i64 0, .string ⟨#[]⟩, .int .u32 0, .int .i64 0, .slice none 0 0, .slice none 0 0] := by rw [← hw0]; exact Blk.new _ _ _
  have hlt := hp.lt
  have HS := Lib.hid (hS w0 (hp.below hb0))
  have HB0 := Lib.hid hb0; have HB := Lib.hid hB; have HW := Lib.hid hw0
  clear hb0 hp hw0 hB hS
  go_enter Tryd.func28, Tryd.ntmps28
  go_wp2_with fail
  rw [HW.out]
  refine HS.out.mono ?_
  rintro e w1 (⟨k, a, s, n, A, la, cA, B, lb, cB, x, r, rfl, hT, hR, hP, hG, hr, hU⟩ | ⟨a, er, rfl, hR, hU⟩)
  · have h1 : Blk w1 w.heap.size 27 #[.int .i64 0, .string ⟨#[]⟩, .int .u32 0, .int .i64 0, .slice none 0 0, .slice none 0 0] := HB.out.upd hU (by omega)
    obtain ⟨⟨e0, e1, e2, e3, e4, e5⟩, z0, z1, z2, z3, z4, z5⟩ := Blk.c6 h1
    have H1 := Lib.hid h1
    have HT := Lib.hid hT; have HR := Lib.hid hR; have HP := Lib.hid hP; have HG := Lib.hid hG; have HU := Lib.hid hU
    clear h1 hT hR hP hG hU
    go_wp2_with fail
    exact bodyPost_ret (resNd rfl rfl (Blk.put6 H1.out _ _ _ _ _ _) rfl) rfl (out_ok hlt HB.out.lt HT.out HR.out HP.out HG.out hr ((below_UB HB0.out).trans HU.out))
  · have HR := Lib.hid hR; have HU := Lib.hid hU
    clear hR hU
    go_wp2_with fail
    exact ⟨rfl, .inr ⟨a, er, rfl, HR.out, (below_UB HB0.out).trans HU.out⟩⟩
theorem OutP.below {w : World} {bp d : Nat} {l : List Tk} {R : Out → Prop} {e : Ending} {w1 w2 : World} (h : OutP w bp d l R e w1) (hb : Below w1.heap.size w1 w2) : OutP w bp d l R e w2 := by
  rcases h with ⟨k, a, s, n, A, la, cA, B, lb, cB, x, r, h1, h2, h3, h4, h5, h6, h7⟩ | ⟨a, er, h1, h2, h3⟩
  · exact .inl ⟨k, a, s, n, A, la, cA, B, lb, cB, x, r, h1, h2.upd (Upd.of_below hb fun _ => False) (fun _ _ h => h), h3, h4.below hb, h5, h6, h7.trans (below_UB hb)⟩
  · exact .inr ⟨a, er, h1, h2, h3.trans (below_UB hb)⟩
theorem PS.dc {w : World} {bp d : Nat} {l : List Tk} (h : PS w bp l d) : w.cell? ⟨bp, 1, none⟩ = some (.int .i64 (d : Int)) ∧ w.frozen? ⟨bp, 1, none⟩ = false := by
  obtain ⟨b, o, c, _, h1, _⟩ := h; exact ⟨h1.cell 1, h1.frozen 1⟩
set_option maxRecDepth 100000 in
set_option maxHeartbeats 2000000 in
theorem within_deep (F : Nat) (w : World) (bp : Nat) (t : Tk) (r : List Tk) (hp : PS w bp (t :: r) 60) :
    Calls Tryd.prog 56 #[.pointer (some ⟨bp, 0, none⟩), .func (.func F) #[.pointer (some ⟨bp, 0, none⟩)] #[]] w fun e w' => e = panV t.at_ 150 ∧ UB bp w w' := by
  obtain ⟨w0, hw0⟩ : ∃ w0, w.alloc (.cells #[.int .i64 0, .string ⟨#[]⟩, .int .u32 0, .int .i64 0, .slice none 0 0, .slice none 0 0] 27) = w0 := ⟨_, rfl⟩
  have hb0 : Below w.heap.size w w0 := by rw [← hw0]; exact (Below.refl _ _).alloc (Nat.le_refl _) _
  have HH := Lib.hid (here w0 bp 60 t r 150 (hp.below hb0))
  obtain ⟨f1, f3⟩ := hp.dc
  have hlt := hp.lt
  have HB0 := Lib.hid hb0; have HW := Lib.hid hw0
  clear hb0 hp hw0
  go_enter Tryd.func56, Tryd.ntmps56
  go_wp2_with fail
  rw [HW.out]
  refine HH.out.mono ?_
  rintro e w1 ⟨rfl, hb1⟩
  have HB1 := Lib.hid (HB0.out.trans (hb1.mono HB0.out.size))
  clear hb1
  go_wp2_with fail
  exact ⟨rfl, rfl, below_UB HB1.out⟩
set_option maxRecDepth 100000 in
set_option maxHeartbeats 2000000 in
theorem within_expr (R : Out → Prop) (w : World) (bp d : Nat) (l : List Tk) (hd : d < 60) (hp : PS w bp l d)
    (hS : ∀ w0, PS w0 bp l (d + 1) → Calls Tryd.prog 28 #[.pointer (some ⟨bp, 0, none⟩)] w0 (OutP w0 bp (d + 1) l R)) :
    Calls Tryd.prog 56 #[.pointer (some ⟨bp, 0, none⟩), .func (.func 28) #[.pointer (some ⟨bp, 0, none⟩)] #[]] w (OutP w bp d l R) := by
  obtain ⟨f1, f3⟩ := hp.dc
  have hlt := hp.lt
  have hne : ((d : Int) == 60) = false := by simp; omega
  obtain ⟨w0, hw0⟩ : ∃ w0, (w.setCell ⟨bp, 1, none⟩ (.int .i64 ((d : Int) + 1))).alloc (.cells #[.int .i64 0, .string ⟨#[]⟩, .int .u32 0, .int .i64 0, .slice none 0 0, .slice none 0 0] 27) = w0 := ⟨_, rfl⟩
  have hsz : (w.setCell ⟨bp, 1, none⟩ (.int .i64 ((d : Int) + 1))).heap.size = w.heap.size := by simp
  have hp0 : PS w0 bp l (d + 1) := by
    have h := (hp.deep (d + 1)).below ((Below.refl _ _).alloc (Nat.le_refl _) (.cells #[.int .i64 0, .string ⟨#[]⟩, .int .u32 0, .int .i64 0, .slice none 0 0, .slice none 0 0] 27))
    rw [← hw0]; exact_mod_cast h
  have hB : Blk w0 w.heap.size 27 #[.int .i64 0, .string ⟨#[]⟩, .int .u32 0, .int .i64 0, .slice none 0 0, .slice none 0 0] := by rw [← hw0, ← hsz]; exact Blk.new _ _ _
  have hU0 : UB bp w w0 := by rw [← hw0]; exact ((Upd.refl (fun b => b = bp) w).setCell (fun _ => rfl) _).alloc _
  have HS := Lib.hid (hS w0 hp0)
  have HB := Lib.hid hB; have HW := Lib.hid hw0; have HU0 := Lib.hid hU0
  clear hp hp0 hB hU0 hw0 hS hsz
  go_enter Tryd.func56, Tryd.ntmps56
  go_wp2_with fail
  rw [HW.out]
  refine HS.out.mono ?_
  rintro e w1 (⟨k, a, s, n, A, la, cA, B, lb, cB, x, r, rfl, hT, hR, hP, hG, hr, hU⟩ | ⟨a, er, rfl, hR, hU⟩)
  · obtain ⟨g1, g3⟩ := hP.dc
    have h1 : Blk w1 w.heap.size 27 #[.int .i64 0, .string ⟨#[]⟩, .int .u32 0, .int .i64 0, .slice none 0 0, .slice none 0 0] := HB.out.upd hU (by omega)
    obtain ⟨⟨e0, e1, e2, e3, e4, e5⟩, z0, z1, z2, z3, z4, z5⟩ := Blk.c6 h1
    have hlt1 := hP.lt
    have hlg := h1.lt
    have hgb : w.heap.size ≠ bp := by omega
    have H1 := Lib.hid h1
    have HT := Lib.hid hT; have HR := Lib.hid hR; have HP := Lib.hid hP; have HG := Lib.hid hG; have HU := Lib.hid hU
    clear h1 hT hR hP hG hU
    go_wp2_with fail
    refine bodyPost_ret (resNd rfl rfl ((Blk.put6 (H1.out.far hgb _) _ _ _ _ _ _).alloc _) rfl) rfl ?_
    have hs1 : UB bp w1 (w1.setCell ⟨bp, 1, none⟩ (.int .i64 (d : Int))) := (Upd.refl (fun b => b = bp) w1).setCell (fun _ => rfl) _
    exact (out_ok hlt HB.out.lt (TIn.far HT.out hs1 fun b hb => by have := HB.out.lt; omega) HR.out (HP.out.deep d) HG.out hr ((HU0.out.trans HU.out).trans hs1)).below ((Below.refl _ _).alloc (Nat.le_refl _) _)
  · have HR := Lib.hid hR; have HU := Lib.hid (HU0.out.trans hU)
    clear hR hU
    go_wp2_with fail
    exact ⟨rfl, .inr ⟨a, er, rfl, HR.out, HU.out⟩⟩
set_option maxRecDepth 100000 in
set_option maxHeartbeats 2000000 in
theorem within_unary (R : Out → Prop) (w : World) (bp d : Nat) (l : List Tk) (hd : d < 60) (hp : PS w bp l d)
    (hS : ∀ w0, PS w0 bp l (d + 1) → Calls Tryd.prog 44 #[.pointer (some ⟨bp, 0, none⟩)] w0 (OutP w0 bp (d + 1) l R)) :
    Calls Tryd.prog 56 #[.pointer (some ⟨bp, 0, none⟩), .func (.func 44) #[.pointer (some ⟨bp, 0, none⟩)] #[]] w (OutP w bp d l R) := by
  obtain ⟨f1, f3⟩ := hp.dc
  have hlt := hp.lt
  have hne : ((d : Int) == 60) = false := by simp; omega
  obtain ⟨w0, hw0⟩ : ∃ w0, (w.setCell ⟨bp, 1, none⟩ (.int .i64 ((d : Int) + 1))).alloc (.cells #[.int .i64 0, .string ⟨#[]⟩, .int .u32 0, .int .i64 0, .slice none 0 0, .slice none 0 0] 27) = w0 := ⟨_, rfl⟩
  have hsz : (w.setCell ⟨bp, 1, none⟩ (.int .i64 ((d : Int) + 1))).heap.size = w.heap.size := by simp
  have hp0 : PS w0 bp l (d + 1) := by
    have h := (hp.deep (d + 1)).below ((Below.refl _ _).alloc (Nat.le_refl _) (.cells #[.int .i64 0, .string ⟨#[]⟩, .int .u32 0, .int .i64 0, .slice none 0 0, .slice none 0 0] 27))
    rw [← hw0]; exact_mod_cast h
  have hB : Blk w0 w.heap.size 27 #[.int .i64 0, .string ⟨#[]⟩, .int .u32 0, .int .i64 0, .slice none 0 0, .slice none 0 0] := by rw [← hw0, ← hsz]; exact Blk.new _ _ _
  have hU0 : UB bp w w0 := by rw [← hw0]; exact ((Upd.refl (fun b => b = bp) w).setCell (fun _ => rfl) _).alloc _
  have HS := Lib.hid (hS w0 hp0)
  have HB := Lib.hid hB; have HW := Lib.hid hw0; have HU0 := Lib.hid hU0
  clear hp hp0 hB hU0 hw0 hS hsz
  go_enter Tryd.func56, Tryd.ntmps56
  go_wp2_with fail
  rw [HW.out]
  refine HS.out.mono ?_
  rintro e w1 (⟨k, a, s, n, A, la, cA, B, lb, cB, x, r, rfl, hT, hR, hP, hG, hr, hU⟩ | ⟨a, er, rfl, hR, hU⟩)
  · obtain ⟨g1, g3⟩ := hP.dc
    have h1 : Blk w1 w.heap.size 27 #[.int .i64 0, .string ⟨#[]⟩, .int .u32 0, .int .i64 0, .slice none 0 0, .slice none 0 0] := HB.out.upd hU (by omega)
    obtain ⟨⟨e0, e1, e2, e3, e4, e5⟩, z0, z1, z2, z3, z4, z5⟩ := Blk.c6 h1
    have hlt1 := hP.lt
    have hlg := h1.lt
    have hgb : w.heap.size ≠ bp := by omega
    have H1 := Lib.hid h1
    have HT := Lib.hid hT; have HR := Lib.hid hR; have HP := Lib.hid hP; have HG := Lib.hid hG; have HU := Lib.hid hU
    clear h1 hT hR hP hG hU
    go_wp2_with fail
    refine bodyPost_ret (resNd rfl rfl ((Blk.put6 (H1.out.far hgb _) _ _ _ _ _ _).alloc _) rfl) rfl ?_
    have hs1 : UB bp w1 (w1.setCell ⟨bp, 1, none⟩ (.int .i64 (d : Int))) := (Upd.refl (fun b => b = bp) w1).setCell (fun _ => rfl) _
    exact (out_ok hlt HB.out.lt (TIn.far HT.out hs1 fun b hb => by have := HB.out.lt; omega) HR.out (HP.out.deep d) HG.out hr ((HU0.out.trans HU.out).trans hs1)).below ((Below.refl _ _).alloc (Nat.le_refl _) _)
  · have HR := Lib.hid hR; have HU := Lib.hid (HU0.out.trans hU)
    clear hR hU
    go_wp2_with fail
    exact ⟨rfl, .inr ⟨a, er, rfl, HR.out, HU.out⟩⟩
set_option maxRecDepth 100000 in
set_option maxHeartbeats 2000000 in
theorem within_inner (R : Out → Prop) (w : World) (bp d : Nat) (l : List Tk) (hd : d < 60) (hp : PS w bp l d)
    (hS : ∀ w0, PS w0 bp l (d + 1) → Calls Tryd.prog 34 #[.pointer (some ⟨bp, 0, none⟩)] w0 (OutP w0 bp (d + 1) l R)) :
    Calls Tryd.prog 56 #[.pointer (some ⟨bp, 0, none⟩), .func (.func 34) #[.pointer (some ⟨bp, 0, none⟩)] #[]] w (OutP w bp d l R) := by
  obtain ⟨f1, f3⟩ := hp.dc
  have hlt := hp.lt
  have hne : ((d : Int) == 60) = false := by simp; omega
  obtain ⟨w0, hw0⟩ : ∃ w0, (w.setCell ⟨bp, 1, none⟩ (.int .i64 ((d : Int) + 1))).alloc (.cells #[.int .i64 0, .string ⟨#[]⟩, .int .u32 0, .int .i64 0, .slice none 0 0, .slice none 0 0] 27) = w0 := ⟨_, rfl⟩
  have hsz : (w.setCell ⟨bp, 1, none⟩ (.int .i64 ((d : Int) + 1))).heap.size = w.heap.size := by simp
  have hp0 : PS w0 bp l (d + 1) := by
    have h := (hp.deep (d + 1)).below ((Below.refl _ _).alloc (Nat.le_refl _) (.cells #[.int .i64 0, .string ⟨#[]⟩, .int .u32 0, .int .i64 0, .slice none 0 0, .slice none 0 0] 27))
    rw [← hw0]; exact_mod_cast h
  have hB : Blk w0 w.heap.size 27 #[.int .i64 0, .string ⟨#[]⟩, .int .u32 0, .int .i64 0, .slice none 0 0, .slice none 0 0] := by rw [← hw0, ← hsz]; exact Blk.new _ _ _
  have hU0 : UB bp w w0 := by rw [← hw0]; exact ((Upd.refl (fun b => b = bp) w).setCell (fun _ => rfl) _).alloc _
  have HS := Lib.hid (hS w0 hp0)
  have HB := Lib.hid hB; have HW := Lib.hid hw0; have HU0 := Lib.hid hU0
  clear hp hp0 hB hU0 hw0 hS hsz
  go_enter Tryd.func56, Tryd.ntmps56
  go_wp2_with fail
  rw [HW.out]
  refine HS.out.mono ?_
  rintro e w1 (⟨k, a, s, n, A, la, cA, B, lb, cB, x, r, rfl, hT, hR, hP, hG, hr, hU⟩ | ⟨a, er, rfl, hR, hU⟩)
  · obtain ⟨g1, g3⟩ := hP.dc
    have h1 : Blk w1 w.heap.size 27 #[.int .i64 0, .string ⟨#[]⟩, .int .u32 0, .int .i64 0, .slice none 0 0, .slice none 0 0] := HB.out.upd hU (by omega)
    obtain ⟨⟨e0, e1, e2, e3, e4, e5⟩, z0, z1, z2, z3, z4, z5⟩ := Blk.c6 h1
    have hlt1 := hP.lt
    have hlg := h1.lt
    have hgb : w.heap.size ≠ bp := by omega
    have H1 := Lib.hid h1
    have HT := Lib.hid hT; have HR := Lib.hid hR; have HP := Lib.hid hP; have HG := Lib.hid hG; have HU := Lib.hid hU
    clear h1 hT hR hP hG hU
    go_wp2_with fail
    refine bodyPost_ret (resNd rfl rfl ((Blk.put6 (H1.out.far hgb _) _ _ _ _ _ _).alloc _) rfl) rfl ?_
    have hs1 : UB bp w1 (w1.setCell ⟨bp, 1, none⟩ (.int .i64 (d : Int))) := (Upd.refl (fun b => b = bp) w1).setCell (fun _ => rfl) _
    exact (out_ok hlt HB.out.lt (TIn.far HT.out hs1 fun b hb => by have := HB.out.lt; omega) HR.out (HP.out.deep d) HG.out hr ((HU0.out.trans HU.out).trans hs1)).below ((Below.refl _ _).alloc (Nat.le_refl _) _)
  · have HR := Lib.hid hR; have HU := Lib.hid (HU0.out.trans hU)
    clear hR hU
    go_wp2_with fail
    exact ⟨rfl, .inr ⟨a, er, rfl, HR.out, HU.out⟩⟩
end Go.Proofs.YtkdpndoollbggaaDoor.Pa
