/- DERIVED. The walk of MemWords, for any number of words. By an AI agent. -/
import Derived.Test.YtldfnjjgacieoaaMmWords
namespace Go.Proofs.Ytldfnjjgacieoaa.memWords
open Go.ChangeShapes Go.WideShapes Go.ChangeAt Go.RowKit Args Mm
set_option linter.unusedVariables false
theorem walk (W : World) (z : Int) (hz : (Lit.int .i64 z).wf = true) (i : Int) (hi : (Lit.int .i64 i).wf = true) (u : Int) (hu : (Lit.int .u32 u).wf = true) :
    Calls Try.prog 4 #[.int .i64 z, .int .i64 i, .int .u32 u] W fun e w' => e = .returned (.bool true) ∧ Below W.heap.size W w' := by
  by_cases h1 : z < 0
  · exact main_ W z 0 0 (.inl ⟨h1, rfl⟩) (.inr ⟨rfl, by omega⟩) i hi u (wf_u32 hu)
  · by_cases h2 : 16000 < z
    · exact main_ W z z 16000 (.inr ⟨by omega, rfl⟩) (.inl ⟨h2, rfl⟩) i hi u (wf_u32 hu)
    · obtain ⟨n, rfl⟩ := Int.eq_ofNat_of_zero_le (show 0 ≤ z by omega)
      exact main_ W n n n (.inr ⟨by omega, rfl⟩) (.inr ⟨rfl, by omega⟩) i hi u (wf_u32 hu)
end Go.Proofs.Ytldfnjjgacieoaa.memWords
