/- DERIVED. A manifest that came in by value. By an AI agent. -/
import Derived.Test.YtgcmbleinobneaaArgs
import Derived.Test.YtgcmbleinobneaaRows
namespace Go.Proofs.Ytgcmbleinobneaa.Args
open Go Go.ChangeShapes Go.WideShapes Go.ChangeAt Go.RowKit
set_option linter.unusedVariables false
structure Man where
  o : Int
  s : Int
  r : Int
  w : Int
  se : List TI
  pu : List TI
  ou : List TI
structure IsMan (W : World) (v : Value) (m : Man) : Prop where
  ex : ∃ v4 v5 v6, v = .agg #[.int .i64 m.o, .int .i64 m.s, .int .i64 m.r, .int .i64 m.w, v4, v5, v6] ∧ TIs W v4 m.se ∧ TIs W v5 m.pu ∧ TIs W v6 m.ou
  wf : (Lit.int .i64 m.o).wf = true ∧ (Lit.int .i64 m.s).wf = true ∧ (Lit.int .i64 m.r).wf = true ∧ (Lit.int .i64 m.w).wf = true
theorem cellT : Try.prog.underlying 23 = some (.slice 41) := Try.underlying23
theorem tis {H : Type} {enc : TypeId × Value → H} {w : World} {base : Nat} {spare : Nat → Bool} {held : Bool} {fuel : Nat} {cs : List Value} {x : DataW H × List MemPlace}
    (h : DataW.trod enc Try.prog w base spare held fuel 23 cs = some x) (hs : (x.1.weights Try.prog 23).all (· ≤ reachBytes) = true) : ∃ v l, cs = [v] ∧ TIs w v l :=
  tis_of Try.underlying23 Try.underlying41 (by kernel_rfl) (by kernel_rfl) ⟨rfl, rfl, rfl, rfl⟩ Try.underlying9 Try.underlying3 (by kernel_rfl) (by kernel_rfl) h hs
theorem man_of {H : Type} {enc : TypeId × Value → H} {W : World} {r : Reach} {b0 base : Nat} {spare : Nat → Bool} {held : Bool} {v : Value} {d : DataW H} {p : List MemPlace}
    (hv : Value.okWide Try.prog W r b0 25 v) (h : DataW.Trod enc Try.prog W base spare held 25 v d p) (hs : (d.weights Try.prog 25).all (· ≤ reachBytes) = true) : ∃ m, IsMan W v m := by
  obtain ⟨cs, rfl, hsz⟩ := okWide_struct Try.underlying25 hv
  obtain ⟨fuel, hfu⟩ := h
  obtain ⟨xs, n, _, hx, _, hlen, hg⟩ := DataW.trod_struct Try.underlying25 hfu
  have g0 : DataW.trod enc Try.prog W base spare held n 3 (List.take (Try.prog.cellsOf 3) (List.drop 0 (Value.agg cs).cells.toList)) = xs[0]? := hg 0 _ rfl
  have g1 : DataW.trod enc Try.prog W base spare held n 3 (List.take (Try.prog.cellsOf 3) (List.drop 1 (Value.agg cs).cells.toList)) = xs[1]? := hg 1 _ rfl
  have g2 : DataW.trod enc Try.prog W base spare held n 3 (List.take (Try.prog.cellsOf 3) (List.drop 2 (Value.agg cs).cells.toList)) = xs[2]? := hg 2 _ rfl
  have g3 : DataW.trod enc Try.prog W base spare held n 3 (List.take (Try.prog.cellsOf 3) (List.drop 3 (Value.agg cs).cells.toList)) = xs[3]? := hg 3 _ rfl
  have g4 : DataW.trod enc Try.prog W base spare held n 23 (List.take (Try.prog.cellsOf 23) (List.drop 4 (Value.agg cs).cells.toList)) = xs[4]? := hg 4 _ rfl
  have g5 : DataW.trod enc Try.prog W base spare held n 23 (List.take (Try.prog.cellsOf 23) (List.drop 5 (Value.agg cs).cells.toList)) = xs[5]? := hg 5 _ rfl
  have g6 : DataW.trod enc Try.prog W base spare held n 23 (List.take (Try.prog.cellsOf 23) (List.drop 6 (Value.agg cs).cells.toList)) = xs[6]? := hg 6 _ rfl
  have c1 : Try.prog.cellsOf 3 = 1 := by kernel_rfl
  have c2 : Try.prog.cellsOf 23 = 1 := by kernel_rfl
  have c7 : Try.prog.cellsOf 25 = 7 := by kernel_rfl
  rw [c7] at hsz
  rw [c1] at g0 g1 g2 g3
  rw [c2] at g4 g5 g6
  obtain ⟨l⟩ := cs
  have hl : l.length = 7 := by simpa using hsz
  match l, hl, xs, hlen with
  | [x0, x1, x2, x3, x4, x5, x6], _, [y0, y1, y2, y3, y4, y5, y6], _ =>
    simp [Value.cells] at g0 g1 g2 g3 g4 g5 g6
    have hd : d = .agg [y0.1, y1.1, y2.1, y3.1, y4.1, y5.1, y6.1] := (Prod.mk.inj hx).1
    rw [hd] at hs
    simp only [DataW.weights, Try.underlying25] at hs
    have w1 := (all_weights hs).2
    have w2 := (all_weights w1).2
    have w3 := (all_weights w2).2
    have w4 := all_weights (all_weights w3).2
    have w5 := all_weights w4.2
    have w6 := all_weights w5.2
    obtain ⟨a0, e0, _, f0⟩ := DataW.trod_int Try.underlying3 g0
    obtain ⟨a1, e1, _, f1⟩ := DataW.trod_int Try.underlying3 g1
    obtain ⟨a2, e2, _, f2⟩ := DataW.trod_int Try.underlying3 g2
    obtain ⟨a3, e3, _, f3⟩ := DataW.trod_int Try.underlying3 g3
    obtain ⟨v4, l4, e4, t4⟩ := tis g4 w4.1
    obtain ⟨v5, l5, e5, t5⟩ := tis g5 w5.1
    obtain ⟨v6, l6, e6, t6⟩ := tis g6 w6.1
    simp at e0 e1 e2 e3 e4 e5 e6
    subst e0 e1 e2 e3 e4 e5 e6
    exact ⟨⟨a0, a1, a2, a3, l4, l5, l6⟩, ⟨⟨_, _, _, rfl, t4, t5, t6⟩, f0, f1, f2, f3⟩⟩
end Go.Proofs.Ytgcmbleinobneaa.Args
