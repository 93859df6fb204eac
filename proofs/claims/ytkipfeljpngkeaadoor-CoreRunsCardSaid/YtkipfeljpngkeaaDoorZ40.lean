/- DERIVED. CoRm in one text. By an AI agent. -/
import Derived.Test.YtkipfeljpngkeaaDoorZ39
import Derived.Test.YtkipfeljpngkeaaDoorZ37
/- DERIVED. CoreRuns, whole. By an AI agent. -/
namespace Go.Proofs.YtkipfeljpngkeaaDoor.Co
open Go.ChangeShapes Go.WideShapes Go.ChangeAt Go.RowKit WMath Word Ref Args Mm MmR
set_option linter.unusedVariables false
theorem in_u16 {z : Int} (h : (Lit.int .u16 z).wf = true) : 0 ≤ z ∧ z < 65536 := by
  have := h; simp [Lit.wf] at this
  have e1 : IntKind.u16.min = 0 := rfl
  have e2 : IntKind.u16.max = 65535 := rfl
  omega
theorem in_u32 {z : Int} (h : (Lit.int .u32 z).wf = true) : 0 ≤ z ∧ z < 4294967296 := by
  have := h; simp [Lit.wf] at this
  have e1 : IntKind.u32.min = 0 := rfl
  have e2 : IntKind.u32.max = 4294967295 := rfl
  omega
theorem coreRuns.walk (W : World) (v : Value) (C : List Int) (hv : Ints .u16 2 W v C) (s : S) (v2 : Value) (T : List Int) (hv2 : Ints .u32 4 W v2 T) (hT : Tp.Tb W) :
    Calls Tryd.prog 4 #[v, sv s, v2] W fun e w' => e = .returned (.bool true) ∧ Below W.heap.size W w' := by
  obtain ⟨A, cap, rfl, hlc, hcm, hL⟩ := hv.ex
  obtain ⟨B, cap2, rfl, hlt, htm, hM⟩ := hv2.ex
  exact runs rstep W A cap C s B cap2 T hT hL hM hlc hcm hlt htm
    ⟨fun z h => in_u16 (hv.wf z (List.mem_of_mem_take h)), noughts_in 4, fun z h => in_u32 (hv2.wf z (List.mem_of_mem_take h)), Nat.zero_le _, ⟨Int.le_refl 0, by show (0 : Int) < 4294967296; decide⟩, by show (C.take 60).length ≤ 60000; rw [List.length_take]; omega, by show (noughts 4).length ≤ 16000; rw [noughts_len]; decide, by show (T.take 30).length ≤ _; rw [List.length_take]; omega⟩
end Go.Proofs.YtkipfeljpngkeaaDoor.Co
