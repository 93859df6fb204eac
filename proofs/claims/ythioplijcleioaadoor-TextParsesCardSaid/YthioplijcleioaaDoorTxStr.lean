/- DERIVED. A region in whatever order under a stronger condition. Of no program. By an AI agent. -/
import Derived.Deep.RegionHeld
namespace Go.Proofs.YthioplijcleioaaDoor.TxR
open Go
section
variable {P : Program} {ops : Array Oper} {Q : Exit → Act → World → Prop} {md : Region.Mode} {S T : World → Prop}
/-- What goes under a stronger condition goes under the weaker one. -/
theorem anyH_strong (hST : ∀ w, T w → S w) : ∀ (fuel : Nat) (listed : Array Bool) (a : Act) (w : World), wpAnyH P md ops Q T fuel listed a w → wpAnyH P md ops Q S fuel listed a w
  | 0, _, _, _, h => h
  | fuel + 1, _, _, _, h => ⟨h.1, fun i hi => wpOp_mono (fun _ _ h' => ⟨hST _ h'.1, anyH_strong hST fuel _ _ _ h'.2⟩) (h.2 i hi)⟩
theorem anyH_row (hST : ∀ w, T w → S w) {fuel : Nat} {listed : Array Bool} {a : Act} {w : World} (hT : T w) (h : T w → wpAnyH P md ops Q T fuel listed a w) : wpAnyH P md ops Q S fuel listed a w :=
  anyH_strong hST _ _ _ _ (h hT)
end
end Go.Proofs.YthioplijcleioaaDoor.TxR
