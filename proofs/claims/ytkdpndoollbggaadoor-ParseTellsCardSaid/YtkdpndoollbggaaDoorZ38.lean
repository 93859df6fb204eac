/- DERIVED. PaCl in one text. By an AI agent. -/
import Derived.Test.YtkdpndoollbggaaDoorZ27
import Derived.Test.YtkdpndoollbggaaDoorZ37
/- DERIVED. What package parse's read is handed. By an AI agent. -/
namespace Go.Proofs.YtkdpndoollbggaaDoor.Pa
open Go Go.ChangeShapes Go.WideShapes Go.ChangeAt Go.RowKit Lx Args
set_option linter.unusedVariables false
set_option linter.unusedSimpArgs false
attribute [local go_sem] fTk0 fTk1 fTk2
/-- One expression. -/
def ExprR (l : List Tk) (o : Out) : Prop := Rd numV (.lev 0) 0 l o
theorem whole_program (w : World) (bp : Nat) (l : List Tk) (hp : PS w bp l 0) (hg : Gt l) : Calls Tryd.prog 12 #[.pointer (some ⟨bp, 0, none⟩)] w (OutP w bp 0 (tX :: l) (ProgR l)) := program w bp l hp hg
theorem whole_expr (w : World) (bp : Nat) (l : List Tk) (hp : PS w bp l 0) (hg : Gt l) : Calls Tryd.prog 28 #[.pointer (some ⟨bp, 0, none⟩)] w (OutP w bp 0 (tX :: l) (ExprR l)) := by
  refine (ex l.length w bp 0 l (Nat.le_refl _) (by omega) hp hg).mono fun e w' h => ?_
  rcases h with ⟨k, a, s, n, A, la, cA, B, lb, cB, x, r, h1, h2, h3, h4, h5, h6, h7⟩ | h
  · exact .inl ⟨k, a, s, n, A, la, cA, B, lb, cB, x, r, h1, h2, h3, h4, h5, by simp only [List.length_cons]; omega, h7⟩
  · exact .inr h
set_option maxRecDepth 100000 in
set_option maxHeartbeats 2000000 in
theorem cl_program (w : World) (bp : Nat) (l : List Tk) (hp : PS w bp l 0) (hg : Gt l) :
    Calls Tryd.prog 11 #[.pointer (some ⟨bp, 0, none⟩)] w (OutP w bp 0 (tX :: l) (ProgR l)) := by
  obtain ⟨w0, hw0⟩ : ∃ w0, w.alloc (.cells #[.int .i64 0, .string ⟨#[]⟩, .int .u32 0, .int .i64 0, .slice none 0 0, .slice none 0 0] 27) = w0 := ⟨_, rfl⟩
  have hb0 : Below w.heap.size w w0 := by rw [← hw0]; exact (Below.refl _ _).alloc (Nat.le_refl _) _
  have hB : Blk w0 w.heap.size 27 #[.int .i64 0, .string ⟨#[]⟩, .int .u32 0, .int .i64 0, .slice none 0 0, .slice none 0 0] := by rw [← hw0]; exact Blk.new _ _ _
  have hlt := hp.lt
  have HS := Lib.hid (whole_program w0 bp l (hp.below hb0) hg)
  have HB0 := Lib.hid hb0; have HB := Lib.hid hB; have HW := Lib.hid hw0
  clear hb0 hp hw0 hB hg
  go_enter Tryd.func11, Tryd.ntmps11
  go_wp2_with fail
  rw [HW.out]
  refine HS.out.mono ?_
  rintro e w1 (⟨k, a, s, n, A, la, cA, B, lb, cB, x, r, rfl, hT, hR, hP, hG, hr, hU⟩ | ⟨a, er, rfl, hR, hU⟩)
  · have h1 : Blk w1 w.heap.size 27 #[.int .i64 0, .string ⟨#[]⟩, .int .u32 0, .int .i64 0, .slice none 0 0, .slice none 0 0] := HB.out.upd hU (by omega)
    obtain ⟨⟨e0, e1, e2, e3, e4, e5⟩, z0, z1, z2, z3, z4, z5⟩ := Blk.c6 h1
    have H1 := Lib.hid h1
    have HT := Lib.hid hT; have HR := Lib.hid hR; have HP := Lib.hid hP; have HG := Lib.hid hG; have HU := Lib.hid hU
    clear h1 hT hR hP hG hU
    go_wp2_with fail
    exact bodyPost_ret (resNd rfl rfl (Blk.put6 H1.out _ _ _ _ _ _) rfl) rfl (out_ok hlt HB.out.lt HT.out HR.out HP.out HG.out hr ((below_UB HB0.out).trans HU.out))
  · have HR := Lib.hid hR; have HU := Lib.hid hU
    clear hR hU
    go_wp2_with fail
    exact ⟨rfl, .inr ⟨a, er, rfl, HR.out, (below_UB HB0.out).trans HU.out⟩⟩
set_option maxRecDepth 100000 in
set_option maxHeartbeats 2000000 in
theorem cl_expr (w : World) (bp : Nat) (l : List Tk) (hp : PS w bp l 0) (hg : Gt l) :
    Calls Tryd.prog 27 #[.pointer (some ⟨bp, 0, none⟩)] w (OutP w bp 0 (tX :: l) (ExprR l)) := by
  obtain ⟨w0, hw0⟩ : ∃ w0, w.alloc (.cells #[.int .i64 0, .string ⟨#[]⟩, .int .u32 0, .int .i64 0, .slice none 0 0, .slice none 0 0] 27) = w0 := ⟨_, rfl⟩
  have hb0 : Below w.heap.size w w0 := by rw [← hw0]; exact (Below.refl _ _).alloc (Nat.le_refl _) _
  have hB : Blk w0 w.heap.size 27 #[.int .i64 0, .string ⟨#[]⟩, .int .u32 0, .int .i64 0, .slice none 0 0, .slice none 0 0] := by rw [← hw0]; exact Blk.new _ _ _
  have hlt := hp.lt
  have HS := Lib.hid (whole_expr w0 bp l (hp.below hb0) hg)
  have HB0 := Lib.hid hb0; have HB := Lib.hid hB; have HW := Lib.hid hw0
  clear hb0 hp hw0 hB hg
  go_enter Tryd.func27, Tryd.ntmps27
  go_wp2_with fail
  rw [HW.out]
  refine HS.out.mono ?_
  rintro e w1 (⟨k, a, s, n, A, la, cA, B, lb, cB, x, r, rfl, hT, hR, hP, hG, hr, hU⟩ | ⟨a, er, rfl, hR, hU⟩)
  · have h1 : Blk w1 w.heap.size 27 #[.int .i64 0, .string ⟨#[]⟩, .int .u32 0, .int .i64 0, .slice none 0 0, .slice none 0 0] := HB.out.upd hU (by omega)
    obtain ⟨⟨e0, e1, e2, e3, e4, e5⟩, z0, z1, z2, z3, z4, z5⟩ := Blk.c6 h1
    have H1 := Lib.hid h1
    have HT := Lib.hid hT; have HR := Lib.hid hR; have HP := Lib.hid hP; have HG := Lib.hid hG; have HU := Lib.hid hU
    clear h1 hT hR hP hG hU
    go_wp2_with fail
    exact bodyPost_ret (resNd rfl rfl (Blk.put6 H1.out _ _ _ _ _ _) rfl) rfl (out_ok hlt HB.out.lt HT.out HR.out HP.out HG.out hr ((below_UB HB0.out).trans HU.out))
  · have HR := Lib.hid hR; have HU := Lib.hid hU
    clear hR hU
    go_wp2_with fail
    exact ⟨rfl, .inr ⟨a, er, rfl, HR.out, (below_UB HB0.out).trans HU.out⟩⟩
/-- What read hands back. -/
def BadR (R : List Tk → Out → Prop) (W : Wd) (a er : Nat) : Prop := (W.er ≠ 0 ∧ a = W.at_ ∧ er = W.er) ∨ (W.er = 0 ∧ (R W.l (.bad a er) ∨ ∃ xs t r, R W.l (.ok xs (t :: r)) ∧ t.k ≠ 0 ∧ a = t.at_ ∧ er = 100))
def RdP (R : List Tk → Out → Prop) (s : ByteArray) (w : World) (e : Ending) (w' : World) : Prop :=
  (∃ k a sx n A la cA B lb cB x t r, e = .returned (.tuple #[.agg #[.int .i64 (k : Nat), .string ⟨(sx : Bs).toArray⟩, .int .u32 (n : Nat), .int .i64 (a : Nat), .slice A la cA, .slice B lb cB], .int .i64 0, .int .i64 0]) ∧ (wordsL s.data.toList).er = 0 ∧ R (wordsL s.data.toList).l (.ok [x] (t :: r)) ∧ t.k = 0 ∧
    TIn (fun b => w.heap.size ≤ b) w' x (ndC k a sx n A la cA B lb cB) ∧ Below w.heap.size w w') ∨
  (∃ a er, e = .returned (.tuple #[.agg #[.int .i64 0, .string ⟨#[]⟩, .int .u32 0, .int .i64 0, .slice none 0 0, .slice none 0 0], .int .i64 (a : Nat), .int .i64 (er : Nat)]) ∧ BadR R (wordsL s.data.toList) a er ∧ Below w.heap.size w w')
theorem go_few : ∀ (f : Nat) (bs : Bs) (i n : Nat), n ≤ 4000 → (goL f bs i n).l.length + n ≤ 4000
  | 0, _, _, n, h => by show 0 + n ≤ 4000; omega
  | f + 1, [], i, n, h => by
    show (if n = 4000 then (⟨[], i, 150⟩ : Wd) else ⟨[⟨0, [], i⟩], 0, 0⟩).l.length + n ≤ 4000
    split
    · show 0 + n ≤ 4000; omega
    · show 1 + n ≤ 4000; omega
  | f + 1, c :: r, i, n, h => by
    rcases ht : tokC c r with _ | ⟨k, m⟩
    · rw [goL_none ht]; show 0 + n ≤ 4000; omega
    · rw [goL_some ht]
      split
      · show 0 + n ≤ 4000; omega
      · have := go_few f (restL ((c :: r).drop m)) (i + m + skipL false ((c :: r).drop m)) (n + 1) (by omega)
        unfold Wd.cons
        split
        · show (goL f _ _ _).l.length + 1 + n ≤ 4000; omega
        · omega
theorem words_few (s : Bs) : (wordsL s).l.length ≤ 4000 := by
  unfold wordsL
  split
  · exact Nat.zero_le _
  · have := go_few (s.length + 1) (s.drop (skipL false s)) (skipL false s) 0 (Nat.zero_le _)
    omega
theorem words_gt {s : Bs} (h : (wordsL s).er = 0) : Gt (wordsL s).l := by
  refine ⟨words_et h, fun t ht => ⟨words_okt s t ht, ?_⟩, ?_⟩
  · obtain ⟨j, hj, hjt⟩ := List.getElem_of_mem ht
    have hx : (wordsL s).l[j]? = some t := by rw [List.getElem?_eq_getElem hj, hjt]
    have h1 := (words_order s h).2 j t hx
    have h2 : s.length ≤ 20000 := by
      rcases Nat.lt_or_ge 20000 s.length with h3 | h3
      · rw [words_long _ h3] at h; exact absurd h (by show ¬ (150 : Nat) = 0; decide)
      · exact h3
    have h3 : ((s.drop t.at_).take t.s.length).length = t.s.length := by rw [h1.2.1]
    rw [List.length_take, List.length_drop] at h3
    omega
  · exact words_few s
end Go.Proofs.YtkdpndoollbggaaDoor.Pa
