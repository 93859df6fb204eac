/- DERIVED. PaSt in one text. By an AI agent. -/
import Derived.Test.YtkdpndoollbggaaDoorRows
import Derived.Test.YtkdpndoollbggaaDoorZ07
import Derived.Test.YtkdpndoollbggaaDoorZ05
import Derived.Test.YtkdpndoollbggaaDoorZ09
import Derived.Laws.Rows
import Derived.WalkLawsBesides
/- DERIVED. The parser's box and its tokens; contracts of the small functions of package parse. By an AI agent. -/
namespace Go.Proofs.YtkdpndoollbggaaDoor.Pa
open Go Go.ChangeShapes Go.WideShapes Go.ChangeAt Go.RowKit Lx Args
set_option linter.unusedVariables false
set_option linter.unusedSimpArgs false
/-- Tokens with the end behind them, each as a token may be. -/
structure Gt (l : List Tk) : Prop where
  et : Et l
  ok : ∀ t ∈ l, Okt t ∧ t.s.length ≤ 20000
  few : l.length ≤ 4000
theorem Gt.cons {l : List Tk} (h : Gt l) : ∃ t r, l = t :: r := by
  cases l with
  | nil => exact absurd h.et et_nil
  | cons t r => exact ⟨t, r, rfl⟩
theorem Gt.tail {t : Tk} {r : List Tk} (h : Gt (t :: r)) (ht : t.k ≠ 0) : Gt r :=
  ⟨et_tail h.et ht, fun u hu => h.ok u (List.mem_cons_of_mem _ hu), by have := h.few; simp at this; omega⟩
theorem Gt.suf {l r : List Tk} (h : Gt l) (he : Et r) (hs : r <:+ l) : Gt r :=
  ⟨he, fun u hu => h.ok u (hs.subset hu), Nat.le_trans hs.length_le h.few⟩
theorem Gt.hd {t : Tk} {r : List Tk} (h : Gt (t :: r)) : Okt t := (h.ok t (List.mem_cons_self ..)).1
/-- The parser's box: the tokens that are left, and how deep it is. -/
structure PS (w : World) (bp : Nat) (l : List Tk) (d : Nat) : Prop where
  ex : ∃ b o c, b < bp ∧ Blk w bp 55 #[.slice (some ⟨b, o, none⟩) l.length c, .int .i64 (d : Int)] ∧ Lies w (some ⟨b, o, none⟩) (l.flatMap tkC) ∧ l.length ≤ c ∧ c ≤ maxLen
abbrev UB (bp : Nat) (w w' : World) : Prop := Upd (fun b => b = bp) w w'
theorem PS.lt {w : World} {bp : Nat} {l : List Tk} {d : Nat} (h : PS w bp l d) : bp < w.heap.size := by
  obtain ⟨b, o, c, _, hb, _⟩ := h; exact hb.lt
theorem Blk.c2 {w : World} {g : Nat} {t : TypeId} {a b : Value} (h : Blk w g t #[a, b]) : w.cell? ⟨g, 0, none⟩ = some a ∧ w.cell? ⟨g, 1, none⟩ = some b ∧ w.frozen? ⟨g, 0, none⟩ = false ∧ w.frozen? ⟨g, 1, none⟩ = false := ⟨h.cell 0, h.cell 1, h.frozen 0, h.frozen 1⟩
theorem Blk.c3 {w : World} {g : Nat} {t : TypeId} {a b c : Value} (h : Blk w g t #[a, b, c]) : w.cell? ⟨g, 0, none⟩ = some a ∧ w.cell? ⟨g, 1, none⟩ = some b ∧ w.cell? ⟨g, 2, none⟩ = some c ∧ w.frozen? ⟨g, 0, none⟩ = false ∧ w.frozen? ⟨g, 1, none⟩ = false ∧ w.frozen? ⟨g, 2, none⟩ = false :=
  ⟨h.cell 0, h.cell 1, h.cell 2, h.frozen 0, h.frozen 1, h.frozen 2⟩
theorem Blk.c6 {w : World} {g : Nat} {t : TypeId} {a b c d e f : Value} (h : Blk w g t #[a, b, c, d, e, f]) : (w.cell? ⟨g, 0, none⟩ = some a ∧ w.cell? ⟨g, 1, none⟩ = some b ∧ w.cell? ⟨g, 2, none⟩ = some c ∧ w.cell? ⟨g, 3, none⟩ = some d ∧ w.cell? ⟨g, 4, none⟩ = some e ∧ w.cell? ⟨g, 5, none⟩ = some f) ∧
    w.frozen? ⟨g, 0, none⟩ = false ∧ w.frozen? ⟨g, 1, none⟩ = false ∧ w.frozen? ⟨g, 2, none⟩ = false ∧ w.frozen? ⟨g, 3, none⟩ = false ∧ w.frozen? ⟨g, 4, none⟩ = false ∧ w.frozen? ⟨g, 5, none⟩ = false :=
  ⟨⟨h.cell 0, h.cell 1, h.cell 2, h.cell 3, h.cell 4, h.cell 5⟩, h.frozen 0, h.frozen 1, h.frozen 2, h.frozen 3, h.frozen 4, h.frozen 5⟩
theorem PS.below {w w' : World} {bp : Nat} {l : List Tk} {d : Nat} (h : PS w bp l d) (hb : Below w.heap.size w w') : PS w' bp l d := by
  obtain ⟨b, o, c, hn, h1, h2, h3⟩ := h
  exact ⟨b, o, c, hn, h1.below hb h1.lt, h2.below hb, h3⟩
/-- What turns behind the box leaves it as it is. -/
theorem PS.far {X : Nat → Prop} {w w' : World} {bp : Nat} {l : List Tk} {d : Nat} (h : PS w bp l d) (hu : Upd X w w') (hX : ∀ b, X b → bp < b) : PS w' bp l d := by
  obtain ⟨b, o, c, hn, h1, h2, h3⟩ := h
  exact ⟨b, o, c, hn, h1.upd hu fun hx => by have := hX bp hx; omega, hu.lies h2 fun b' o' e _ hx => by cases e; have := hX _ hx; omega, h3⟩
theorem flat_cons (t : Tk) (r : List Tk) : (t :: r).flatMap tkC = .int .i64 (t.k : Int) :: .string ⟨t.s.toArray⟩ :: .int .i64 (t.at_ : Int) :: r.flatMap tkC := rfl
theorem PS.head {w : World} {bp : Nat} {t : Tk} {r : List Tk} {d : Nat} (h : PS w bp (t :: r) d) : ∃ b o c, b < bp ∧ r.length + 1 ≤ c ∧ c ≤ maxLen ∧ w.cell? ⟨bp, 0, none⟩ = some (.slice (some ⟨b, o, none⟩) (r.length + 1) c) ∧ w.cell? ⟨bp, 1, none⟩ = some (.int .i64 (d : Int)) ∧
    w.frozen? ⟨bp, 0, none⟩ = false ∧ w.frozen? ⟨bp, 1, none⟩ = false ∧
    w.cell? ⟨b, o, none⟩ = some (.int .i64 (t.k : Int)) ∧ w.cell? ⟨b, o + 1, none⟩ = some (.string ⟨t.s.toArray⟩) ∧ w.cell? ⟨b, o + 2, none⟩ = some (.int .i64 (t.at_ : Int)) := by
  obtain ⟨b, o, c, hn, h1, h2, h3, h4⟩ := h
  rw [flat_cons] at h2
  have f0 := h2 0 _ rfl; have f1 := h2 1 _ rfl; have f2 := h2 2 _ rfl
  obtain ⟨a0, e0, f0⟩ := f0; obtain ⟨a1, e1, f1⟩ := f1; obtain ⟨a2, e2, f2⟩ := f2
  cases e0; cases e1; cases e2
  rw [Args.add_plain] at f0 f1 f2
  exact ⟨b, o, c, hn, h3, h4, h1.cell 0, h1.cell 1, h1.frozen 0, h1.frozen 1, f0, f1, f2⟩
/-- The next token has been taken. -/
theorem PS.take {w : World} {bp : Nat} {t : Tk} {r : List Tk} {d b o c : Nat} (h : PS w bp (t :: r) d) (hc : w.cell? ⟨bp, 0, none⟩ = some (.slice (some ⟨b, o, none⟩) (r.length + 1) c)) :
    PS (w.setCell ⟨bp, 0, none⟩ (.slice (some ⟨b, o + 3, none⟩) r.length (c - 1))) bp r d := by
  obtain ⟨b', o', c', hn, h1, h2, h3, h4⟩ := h
  have e := h1.cell 0
  rw [hc] at e
  simp at e
  obtain ⟨⟨rfl, rfl⟩, rfl⟩ := e
  simp only [List.length_cons] at h3
  refine ⟨b, o + 3, c - 1, hn, ?_, ?_, by omega, by omega⟩
  · exact h1.set 0 _
  · intro j u hj
    refine ⟨_, rfl, ?_⟩
    rw [Args.add_plain]
    have h5 := h2 (j + 3) u (by rw [flat_cons]; simpa using hj)
    obtain ⟨a, ea, h5⟩ := h5
    cases ea
    rw [Args.add_plain] at h5
    rw [show o + 3 + j = o + (j + 3) by omega, ← h5]
    exact World.cell?_of_block (a := ⟨b, o + (j + 3), none⟩) (Below.heap_setCell w _ _ b (Nat.ne_of_lt hn))
/-- How deep it is is set. -/
theorem PS.deep {w : World} {bp : Nat} {l : List Tk} {d : Nat} (h : PS w bp l d) (d' : Nat) : PS (w.setCell ⟨bp, 1, none⟩ (.int .i64 (d' : Int))) bp l d' := by
  obtain ⟨b, o, c, hn, h1, h2, h3⟩ := h
  refine ⟨b, o, c, hn, h1.set 1 _, ?_, h3⟩
  intro j u hj
  obtain ⟨a, ea, h5⟩ := h2 j u hj
  cases ea
  refine ⟨_, rfl, ?_⟩
  rw [Args.add_plain] at h5 ⊢
  rw [← h5]
  exact World.cell?_of_block (a := ⟨b, o + j, none⟩) (Below.heap_setCell w _ _ b (Nat.ne_of_lt hn))

end Go.Proofs.YtkdpndoollbggaaDoor.Pa
