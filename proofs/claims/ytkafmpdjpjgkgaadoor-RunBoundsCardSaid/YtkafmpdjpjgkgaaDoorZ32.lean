/- DERIVED. CoLv in one text. By an AI agent. -/
import Derived.Test.YtkafmpdjpjgkgaaDoorZ20
import Derived.Test.YtkafmpdjpjgkgaaDoorZ31
import Derived.Lib.QuietBelow
/- DERIVED. The laws' living call; the walk of CoreHolds. By an AI agent. -/
namespace Go.Proofs.YtkafmpdjpjgkgaaDoor.Co
open Go.ChangeShapes Go.WideShapes Go.ChangeAt Go.RowKit WMath Word Ref Args Mm
set_option linter.unusedVariables false
set_option linter.unusedSimpArgs false
def sL : S := zS.up 0 4294967295#32
def mL : St := ⟨[12289], noughts 1, [], 0, 0⟩
theorem fitL : Fit mL := ⟨by decide, noughts_in 1, nofun, by decide, by decide, by decide, by decide, by decide⟩
theorem l0 : (stepV sL mL).1.r 0 = 0#32 := by decide +kernel
theorem lc : (stepV sL mL).1.c = true := by decide +kernel
theorem ls : (stepV sL mL).2.1 = false := by decide +kernel
end Go.Proofs.YtkafmpdjpjgkgaaDoor.Co
