/-
  DERIVED. GIVEN WITH THE SEED: THE CARDS: each row of YtcgibpdjfgjldaaGreatDoorRows.lean that lists a variable, with what it lists TIED to the program's text (the seventh form; the later family's looks); each row that meets fmt, with fmt's text TOLD by the authors' own Lean function (tested against real Go, not proved from fmt's source: count such statements apart). THE CARD IS WHAT COUNTS. Prove the row's statement (the work); the ties are given (YtcgibpdjfgjldaaGreatDoorTie.lean); close each card by the builder's one call (the guide's Derived/Test/ToyasCard.lean, 'card_holds'). Laid BY PROGRAM, IN A SANDBOX (cutbox-door.mjs). By AI agents, Wed Nov 11 2026. No macro, syntax, notation, axiom, sorry.
-/
import Derived.Test.YtcgibpdjfgjldaaGreatDoorRows
import GoSem.ClaimSeven
namespace Go.Proofs.YtcgibpdjfgjldaaGreatDoor
namespace Rows

/-- THE TIED CARD OF 'bautalaw13.FlowOpen'. -/
def flowOpenCard : Claim7 := { stood := { row := flowOpenRow, standIns := [], harness := (true, "65cbab547cfffb44226401d0fc11cec40d635cb5dcf16be7e8fd732d16102893"), looks := true }, kinds := [], alts := [], laidByText := true, laidKinds := [.data, .pinned], laidTests := true, laidLooks := .later }
def FlowOpenCardSaid : Prop := Claim7.holds Tryz.pinned (.plain (OpenSpec.ofChange flowOpenSpec)) flowOpenCard

/-- THE TIED CARD OF 'bautalaw13.FlowNames'. -/
def flowNamesCard : Claim7 := { stood := { row := flowNamesRow, standIns := [], harness := (true, "65cbab547cfffb44226401d0fc11cec40d635cb5dcf16be7e8fd732d16102893"), looks := true }, kinds := [], alts := [], laidByText := true, laidKinds := [.data, .pinned], laidTests := true, laidLooks := .later }
def FlowNamesCardSaid : Prop := Claim7.holds Tryz.pinned (.plain (OpenSpec.ofChange flowNamesSpec)) flowNamesCard

/-- THE TIED CARD OF 'bautalaw13.FlowMore'. -/
def flowMoreCard : Claim7 := { stood := { row := flowMoreRow, standIns := [], harness := (true, "65cbab547cfffb44226401d0fc11cec40d635cb5dcf16be7e8fd732d16102893"), looks := true }, kinds := [], alts := [], laidByText := true, laidKinds := [.data, .pinned], laidTests := true, laidLooks := .later }
def FlowMoreCardSaid : Prop := Claim7.holds Tryz.pinned (.plain (OpenSpec.ofChange flowMoreSpec)) flowMoreCard

/-- THE TIED CARD OF 'bautalaw14.EvalExprs'. -/
def evalExprsCard : Claim7 := { stood := { row := evalExprsRow, standIns := [], harness := (true, "65cbab547cfffb44226401d0fc11cec40d635cb5dcf16be7e8fd732d16102893"), looks := true }, kinds := [], alts := [], laidByText := true, laidKinds := [.data, .pinned], laidTests := true, laidLooks := .later }
def EvalExprsCardSaid : Prop := Claim7.holds Tryz.pinned (.plain (OpenSpec.ofChange evalExprsSpec)) evalExprsCard

/-- THE TIED CARD OF 'bautalaw14.EvalOpen'. -/
def evalOpenCard : Claim7 := { stood := { row := evalOpenRow, standIns := [], harness := (true, "65cbab547cfffb44226401d0fc11cec40d635cb5dcf16be7e8fd732d16102893"), looks := true }, kinds := [], alts := [], laidByText := true, laidKinds := [.data, .pinned], laidTests := true, laidLooks := .later }
def EvalOpenCardSaid : Prop := Claim7.holds Tryz.pinned (.plain (OpenSpec.ofChange evalOpenSpec)) evalOpenCard

/-- THE TIED CARD OF 'bautalaw14.EvalConsts'. -/
def evalConstsCard : Claim7 := { stood := { row := evalConstsRow, standIns := [], harness := (true, "65cbab547cfffb44226401d0fc11cec40d635cb5dcf16be7e8fd732d16102893"), looks := true }, kinds := [], alts := [], laidByText := true, laidKinds := [.data, .pinned], laidTests := true, laidLooks := .later }
def EvalConstsCardSaid : Prop := Claim7.holds Tryz.pinned (.plain (OpenSpec.ofChange evalConstsSpec)) evalConstsCard

/-- THE SECOND FORM's CARD OF 'bautalaw13.FlowOpen'. -/
def flowOpenUptoCard : Claim7 := { stood := { row := flowOpenUptoRow, standIns := [], harness := (true, "65cbab547cfffb44226401d0fc11cec40d635cb5dcf16be7e8fd732d16102893"), looks := true }, kinds := [], alts := [], laidByText := true, laidKinds := [.data, .pinned], laidTests := true, laidLooks := .later }
def FlowOpenUptoCardSaid : Prop := Claim7.holds Tryz.pinned (.plain (OpenSpec.upto flowOpenSpec)) flowOpenUptoCard

/-- THE SECOND FORM's CARD OF 'bautalaw13.FlowNames'. -/
def flowNamesUptoCard : Claim7 := { stood := { row := flowNamesUptoRow, standIns := [], harness := (true, "65cbab547cfffb44226401d0fc11cec40d635cb5dcf16be7e8fd732d16102893"), looks := true }, kinds := [], alts := [], laidByText := true, laidKinds := [.data, .pinned], laidTests := true, laidLooks := .later }
def FlowNamesUptoCardSaid : Prop := Claim7.holds Tryz.pinned (.plain (OpenSpec.upto flowNamesSpec)) flowNamesUptoCard

/-- THE SECOND FORM's CARD OF 'bautalaw13.FlowMore'. -/
def flowMoreUptoCard : Claim7 := { stood := { row := flowMoreUptoRow, standIns := [], harness := (true, "65cbab547cfffb44226401d0fc11cec40d635cb5dcf16be7e8fd732d16102893"), looks := true }, kinds := [], alts := [], laidByText := true, laidKinds := [.data, .pinned], laidTests := true, laidLooks := .later }
def FlowMoreUptoCardSaid : Prop := Claim7.holds Tryz.pinned (.plain (OpenSpec.upto flowMoreSpec)) flowMoreUptoCard

/-- THE SECOND FORM's CARD OF 'bautalaw14.EvalExprs'. -/
def evalExprsUptoCard : Claim7 := { stood := { row := evalExprsUptoRow, standIns := [], harness := (true, "65cbab547cfffb44226401d0fc11cec40d635cb5dcf16be7e8fd732d16102893"), looks := true }, kinds := [], alts := [], laidByText := true, laidKinds := [.data, .pinned], laidTests := true, laidLooks := .later }
def EvalExprsUptoCardSaid : Prop := Claim7.holds Tryz.pinned (.plain (OpenSpec.upto evalExprsSpec)) evalExprsUptoCard

/-- THE SECOND FORM's CARD OF 'bautalaw14.EvalOpen'. -/
def evalOpenUptoCard : Claim7 := { stood := { row := evalOpenUptoRow, standIns := [], harness := (true, "65cbab547cfffb44226401d0fc11cec40d635cb5dcf16be7e8fd732d16102893"), looks := true }, kinds := [], alts := [], laidByText := true, laidKinds := [.data, .pinned], laidTests := true, laidLooks := .later }
def EvalOpenUptoCardSaid : Prop := Claim7.holds Tryz.pinned (.plain (OpenSpec.upto evalOpenSpec)) evalOpenUptoCard

/-- THE SECOND FORM's CARD OF 'bautalaw14.EvalConsts'. -/
def evalConstsUptoCard : Claim7 := { stood := { row := evalConstsUptoRow, standIns := [], harness := (true, "65cbab547cfffb44226401d0fc11cec40d635cb5dcf16be7e8fd732d16102893"), looks := true }, kinds := [], alts := [], laidByText := true, laidKinds := [.data, .pinned], laidTests := true, laidLooks := .later }
def EvalConstsUptoCardSaid : Prop := Claim7.holds Tryz.pinned (.plain (OpenSpec.upto evalConstsSpec)) evalConstsUptoCard
end Rows
end Go.Proofs.YtcgibpdjfgjldaaGreatDoor
