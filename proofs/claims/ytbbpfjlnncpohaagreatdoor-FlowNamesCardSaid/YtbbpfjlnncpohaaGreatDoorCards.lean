/-
  DERIVED. GIVEN WITH THE SEED: THE CARDS: each row of YtbbpfjlnncpohaaGreatDoorRows.lean that lists a variable, with what it lists TIED to the program's text (the seventh form; the later family's looks); each row that meets fmt, with fmt's text TOLD by the authors' own Lean function (tested against real Go, not proved from fmt's source: count such statements apart). THE CARD IS WHAT COUNTS. Prove the row's statement (the work); the ties are given (YtbbpfjlnncpohaaGreatDoorTie.lean); close each card by the builder's one call (the guide's Derived/Test/ToyasCard.lean, 'card_holds'). Laid BY PROGRAM, IN A SANDBOX (cutbox-door.mjs). By AI agents, Wed Nov 11 2026. No macro, syntax, notation, axiom, sorry.
-/
import Derived.Test.YtbbpfjlnncpohaaGreatDoorRows
import GoSem.ClaimSeven
namespace Go.Proofs.YtbbpfjlnncpohaaGreatDoor
namespace Rows

/-- THE TIED CARD OF 'bautalaw13.FlowOpen'. -/
def flowOpenCard : Claim7 := { stood := { row := flowOpenRow, standIns := [], harness := (true, "02438f54ac76f0104e9a4b635751ce6c13d109e888b96f0eb9a0c98a2527487c"), looks := true }, kinds := [], alts := [], laidByText := true, laidKinds := [.data, .pinned], laidTests := true, laidLooks := .later }
def FlowOpenCardSaid : Prop := Claim7.holds Tryz.pinned (.plain (OpenSpec.ofChange flowOpenSpec)) flowOpenCard

/-- THE TIED CARD OF 'bautalaw13.FlowNames'. -/
def flowNamesCard : Claim7 := { stood := { row := flowNamesRow, standIns := [], harness := (true, "02438f54ac76f0104e9a4b635751ce6c13d109e888b96f0eb9a0c98a2527487c"), looks := true }, kinds := [], alts := [], laidByText := true, laidKinds := [.data, .pinned], laidTests := true, laidLooks := .later }
def FlowNamesCardSaid : Prop := Claim7.holds Tryz.pinned (.plain (OpenSpec.ofChange flowNamesSpec)) flowNamesCard

/-- THE TIED CARD OF 'bautalaw13.FlowMore'. -/
def flowMoreCard : Claim7 := { stood := { row := flowMoreRow, standIns := [], harness := (true, "02438f54ac76f0104e9a4b635751ce6c13d109e888b96f0eb9a0c98a2527487c"), looks := true }, kinds := [], alts := [], laidByText := true, laidKinds := [.data, .pinned], laidTests := true, laidLooks := .later }
def FlowMoreCardSaid : Prop := Claim7.holds Tryz.pinned (.plain (OpenSpec.ofChange flowMoreSpec)) flowMoreCard

/-- THE SECOND FORM's CARD OF 'bautalaw13.FlowOpen'. -/
def flowOpenUptoCard : Claim7 := { stood := { row := flowOpenUptoRow, standIns := [], harness := (true, "02438f54ac76f0104e9a4b635751ce6c13d109e888b96f0eb9a0c98a2527487c"), looks := true }, kinds := [], alts := [], laidByText := true, laidKinds := [.data, .pinned], laidTests := true, laidLooks := .later }
def FlowOpenUptoCardSaid : Prop := Claim7.holds Tryz.pinned (.plain (OpenSpec.upto flowOpenSpec)) flowOpenUptoCard

/-- THE SECOND FORM's CARD OF 'bautalaw13.FlowNames'. -/
def flowNamesUptoCard : Claim7 := { stood := { row := flowNamesUptoRow, standIns := [], harness := (true, "02438f54ac76f0104e9a4b635751ce6c13d109e888b96f0eb9a0c98a2527487c"), looks := true }, kinds := [], alts := [], laidByText := true, laidKinds := [.data, .pinned], laidTests := true, laidLooks := .later }
def FlowNamesUptoCardSaid : Prop := Claim7.holds Tryz.pinned (.plain (OpenSpec.upto flowNamesSpec)) flowNamesUptoCard

/-- THE SECOND FORM's CARD OF 'bautalaw13.FlowMore'. -/
def flowMoreUptoCard : Claim7 := { stood := { row := flowMoreUptoRow, standIns := [], harness := (true, "02438f54ac76f0104e9a4b635751ce6c13d109e888b96f0eb9a0c98a2527487c"), looks := true }, kinds := [], alts := [], laidByText := true, laidKinds := [.data, .pinned], laidTests := true, laidLooks := .later }
def FlowMoreUptoCardSaid : Prop := Claim7.holds Tryz.pinned (.plain (OpenSpec.upto flowMoreSpec)) flowMoreUptoCard
end Rows
end Go.Proofs.YtbbpfjlnncpohaaGreatDoor
