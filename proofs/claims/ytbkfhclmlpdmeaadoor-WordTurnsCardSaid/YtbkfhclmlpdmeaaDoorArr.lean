/- DERIVED. An array of two integers that came in by value: its two numbers. By an AI agent. -/
import Derived.ProofKit
import Derived.OpenShut
namespace Go.Proofs.YtbkfhclmlpdmeaaDoor
open Go.ChangeShapes Go.WideShapes Go.ChangeAt Go.RowKit
theorem arr2 {H : Type} {enc : TypeId × Value → H} {P : Program} {W : World} {r : Reach} {b0 base : Nat} {spare : Nat → Bool} {held : Bool} {T E : TypeId} {k : IntKind} {v : Value} {d : DataW H} {p : List MemPlace}
    (hT : P.underlying T = some (.array 2 E)) (hE : P.underlying E = some (.int k)) (hC : P.cellsOf T = 2) (hC1 : P.cellsOf E = 1)
    (hv : Value.okWide P W r b0 T v) (h : DataW.Trod enc P W base spare held T v d p) :
    ∃ x y : Int, (Lit.int k x).wf = true ∧ (Lit.int k y).wf = true ∧ v = .agg #[.int k x, .int k y] := by
  have hv' := hv
  simp only [Value.okWide, hT] at hv'
  obtain ⟨cs, rfl, hsz, _⟩ := hv'
  obtain ⟨fuel, hf⟩ := h
  obtain ⟨xs, m, _, _, hlen, hn, hel⟩ := DataW.trod_array hT hf
  have h0 := hel 0 (by decide)
  have h1 := hel 1 (by decide)
  rw [hC1] at h0 h1
  obtain ⟨l⟩ := cs
  have hl : l.length = 2 := by rw [hC] at hsz; simpa using hsz
  match l, hl, xs, hn with
  | [c0, c1], _, [x0, x1], _ =>
    simp [Value.cells] at h0 h1
    obtain ⟨a, e0, _, wa⟩ := DataW.trod_int hE h0
    obtain ⟨b, e1, _, wb⟩ := DataW.trod_int hE h1
    simp at e0 e1
    subst e0 e1
    exact ⟨a, b, wa, wb, rfl⟩
end Go.Proofs.YtbkfhclmlpdmeaaDoor
