/- DERIVED. A struct of five integers that came in by value: its five numbers. By an AI agent. -/
import Derived.Test.YthioplijcleioaaDoorRows
import Derived.ProofKit
import Derived.OpenShut
import Derived.Lib.SmallJoins
namespace Go.Proofs.YthioplijcleioaaDoor
open Go.ChangeShapes Go.WideShapes Go.ChangeAt Go.RowKit Go.Joins
theorem ints5 {H : Type} {enc : TypeId × Value → H} {P : Program} {W : World} {r : Reach} {b0 base : Nat} {spare : Nat → Bool} {held : Bool} {T E : TypeId} {k : IntKind} {v : Value} {d : DataW H} {p : List MemPlace} {f0 f1 f2 f3 f4 : Field}
    (hT : P.underlying T = some (.struct #[f0, f1, f2, f3, f4])) (hE : P.underlying E = some (.int k)) (hC : P.cellsOf T = 5) (hC1 : P.cellsOf E = 1)
    (hf : f0.type = E ∧ f1.type = E ∧ f2.type = E ∧ f3.type = E ∧ f4.type = E) (ho : f0.offset = 0 ∧ f1.offset = 1 ∧ f2.offset = 2 ∧ f3.offset = 3 ∧ f4.offset = 4)
    (hv : Value.okWide P W r b0 T v) (h : DataW.Trod enc P W base spare held T v d p) :
    ∃ x0 x1 x2 x3 x4 : Int, ((Lit.int k x0).wf = true ∧ (Lit.int k x1).wf = true ∧ (Lit.int k x2).wf = true ∧ (Lit.int k x3).wf = true ∧ (Lit.int k x4).wf = true) ∧ v = .agg #[.int k x0, .int k x1, .int k x2, .int k x3, .int k x4] := by
  obtain ⟨cs, rfl, hsz⟩ := okWide_struct hT hv
  obtain ⟨fuel, hfu⟩ := h
  obtain ⟨xs, n, _, _, _, hlen, hg⟩ := DataW.trod_struct hT hfu
  have g0 := hg 0 f0 rfl; have g1 := hg 1 f1 rfl; have g2 := hg 2 f2 rfl; have g3 := hg 3 f3 rfl; have g4 := hg 4 f4 rfl
  rw [hf.1, ho.1, hC1] at g0
  rw [hf.2.1, ho.2.1, hC1] at g1
  rw [hf.2.2.1, ho.2.2.1, hC1] at g2
  rw [hf.2.2.2.1, ho.2.2.2.1, hC1] at g3
  rw [hf.2.2.2.2, ho.2.2.2.2, hC1] at g4
  obtain ⟨l⟩ := cs
  have hl : l.length = 5 := by rw [hC] at hsz; simpa using hsz
  match l, hl, xs, hlen with
  | [c0, c1, c2, c3, c4], _, [y0, y1, y2, y3, y4], _ =>
    simp [Value.cells] at g0 g1 g2 g3 g4
    obtain ⟨a0, e0, _, w0⟩ := DataW.trod_int hE g0
    obtain ⟨a1, e1, _, w1⟩ := DataW.trod_int hE g1
    obtain ⟨a2, e2, _, w2⟩ := DataW.trod_int hE g2
    obtain ⟨a3, e3, _, w3⟩ := DataW.trod_int hE g3
    obtain ⟨a4, e4, _, w4⟩ := DataW.trod_int hE g4
    simp at e0 e1 e2 e3 e4
    subst e0 e1 e2 e3 e4
    exact ⟨a0, a1, a2, a3, a4, ⟨w0, w1, w2, w3, w4⟩, rfl⟩
end Go.Proofs.YthioplijcleioaaDoor
