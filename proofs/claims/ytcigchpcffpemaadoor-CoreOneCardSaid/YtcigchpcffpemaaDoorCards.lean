/-
  DERIVED. GIVEN WITH THE SEED: THE CARDS: each row of YtcigchpcffpemaaDoorRows.lean that lists a variable, with what it lists TIED to the program's text (the seventh form; the later family's looks); each row that meets fmt, with fmt's text TOLD by the authors' own Lean function (tested against real Go, not proved from fmt's source: count such statements apart). THE CARD IS WHAT COUNTS. Prove the row's statement (the work); the ties are given (YtcigchpcffpemaaDoorTie.lean); close each card by the builder's one call (the guide's Derived/Test/ToyasCard.lean, 'card_holds'). Laid BY PROGRAM, IN A SANDBOX (cutbox-door.mjs). By AI agents, Wed Nov 11 2026. No macro, syntax, notation, axiom, sorry.
-/
import Derived.Test.YtcigchpcffpemaaDoorRows
import GoSem.ClaimSeven
namespace Go.Proofs.YtcigchpcffpemaaDoor
namespace Rows

/-- THE TIED CARD OF 'bautalaw07.LeakSteps'. -/
def leakStepsCard : Claim7 := { stood := { row := leakStepsRow, standIns := [], harness := (true, "5002dc05fc869093de6d1a8fcc6fd05879e7d9375400e45bf949022b5c6377c3"), looks := false }, kinds := [], alts := [], laidByText := true, laidKinds := [.data, .data], laidTests := true, laidLooks := .later }
def LeakStepsCardSaid : Prop := Claim7.holds Tryd.pinned (.plain (OpenSpec.ofChange leakStepsSpec)) leakStepsCard

/-- THE TIED CARD OF 'bautalaw07.LeakSets'. -/
def leakSetsCard : Claim7 := { stood := { row := leakSetsRow, standIns := [], harness := (true, "5002dc05fc869093de6d1a8fcc6fd05879e7d9375400e45bf949022b5c6377c3"), looks := false }, kinds := [], alts := [], laidByText := true, laidKinds := [.data, .data], laidTests := true, laidLooks := .later }
def LeakSetsCardSaid : Prop := Claim7.holds Tryd.pinned (.plain (OpenSpec.ofChange leakSetsSpec)) leakSetsCard

/-- THE TIED CARD OF 'bautalaw07.LeakParts'. -/
def leakPartsCard : Claim7 := { stood := { row := leakPartsRow, standIns := [], harness := (true, "5002dc05fc869093de6d1a8fcc6fd05879e7d9375400e45bf949022b5c6377c3"), looks := false }, kinds := [], alts := [], laidByText := true, laidKinds := [.data, .data], laidTests := true, laidLooks := .later }
def LeakPartsCardSaid : Prop := Claim7.holds Tryd.pinned (.plain (OpenSpec.ofChange leakPartsSpec)) leakPartsCard

/-- THE TIED CARD OF 'bautalaw07.LeakBus'. -/
def leakBusCard : Claim7 := { stood := { row := leakBusRow, standIns := [], harness := (true, "5002dc05fc869093de6d1a8fcc6fd05879e7d9375400e45bf949022b5c6377c3"), looks := false }, kinds := [], alts := [], laidByText := true, laidKinds := [.data, .data], laidTests := true, laidLooks := .later }
def LeakBusCardSaid : Prop := Claim7.holds Tryd.pinned (.plain (OpenSpec.ofChange leakBusSpec)) leakBusCard

/-- THE TIED CARD OF 'bautalaw06.CoreOne'. -/
def coreOneCard : Claim7 := { stood := { row := coreOneRow, standIns := [], harness := (true, "5002dc05fc869093de6d1a8fcc6fd05879e7d9375400e45bf949022b5c6377c3"), looks := false }, kinds := [], alts := [], laidByText := true, laidKinds := [.data, .data], laidTests := true, laidLooks := .later }
def CoreOneCardSaid : Prop := Claim7.holds Tryd.pinned (.plain (OpenSpec.ofChange coreOneSpec)) coreOneCard

/-- THE TIED CARD OF 'bautalaw06.CoreAdds'. -/
def coreAddsCard : Claim7 := { stood := { row := coreAddsRow, standIns := [], harness := (true, "5002dc05fc869093de6d1a8fcc6fd05879e7d9375400e45bf949022b5c6377c3"), looks := false }, kinds := [], alts := [], laidByText := true, laidKinds := [.data, .data], laidTests := true, laidLooks := .later }
def CoreAddsCardSaid : Prop := Claim7.holds Tryd.pinned (.plain (OpenSpec.ofChange coreAddsSpec)) coreAddsCard

/-- THE SECOND FORM's CARD OF 'bautalaw07.LeakSteps'. -/
def leakStepsUptoCard : Claim7 := { stood := { row := leakStepsUptoRow, standIns := [], harness := (true, "5002dc05fc869093de6d1a8fcc6fd05879e7d9375400e45bf949022b5c6377c3"), looks := false }, kinds := [], alts := [], laidByText := true, laidKinds := [.data, .data], laidTests := true, laidLooks := .later }
def LeakStepsUptoCardSaid : Prop := Claim7.holds Tryd.pinned (.plain (OpenSpec.upto leakStepsSpec)) leakStepsUptoCard

/-- THE SECOND FORM's CARD OF 'bautalaw07.LeakSets'. -/
def leakSetsUptoCard : Claim7 := { stood := { row := leakSetsUptoRow, standIns := [], harness := (true, "5002dc05fc869093de6d1a8fcc6fd05879e7d9375400e45bf949022b5c6377c3"), looks := false }, kinds := [], alts := [], laidByText := true, laidKinds := [.data, .data], laidTests := true, laidLooks := .later }
def LeakSetsUptoCardSaid : Prop := Claim7.holds Tryd.pinned (.plain (OpenSpec.upto leakSetsSpec)) leakSetsUptoCard

/-- THE SECOND FORM's CARD OF 'bautalaw07.LeakParts'. -/
def leakPartsUptoCard : Claim7 := { stood := { row := leakPartsUptoRow, standIns := [], harness := (true, "5002dc05fc869093de6d1a8fcc6fd05879e7d9375400e45bf949022b5c6377c3"), looks := false }, kinds := [], alts := [], laidByText := true, laidKinds := [.data, .data], laidTests := true, laidLooks := .later }
def LeakPartsUptoCardSaid : Prop := Claim7.holds Tryd.pinned (.plain (OpenSpec.upto leakPartsSpec)) leakPartsUptoCard

/-- THE SECOND FORM's CARD OF 'bautalaw07.LeakBus'. -/
def leakBusUptoCard : Claim7 := { stood := { row := leakBusUptoRow, standIns := [], harness := (true, "5002dc05fc869093de6d1a8fcc6fd05879e7d9375400e45bf949022b5c6377c3"), looks := false }, kinds := [], alts := [], laidByText := true, laidKinds := [.data, .data], laidTests := true, laidLooks := .later }
def LeakBusUptoCardSaid : Prop := Claim7.holds Tryd.pinned (.plain (OpenSpec.upto leakBusSpec)) leakBusUptoCard

/-- THE SECOND FORM's CARD OF 'bautalaw06.CoreOne'. -/
def coreOneUptoCard : Claim7 := { stood := { row := coreOneUptoRow, standIns := [], harness := (true, "5002dc05fc869093de6d1a8fcc6fd05879e7d9375400e45bf949022b5c6377c3"), looks := false }, kinds := [], alts := [], laidByText := true, laidKinds := [.data, .data], laidTests := true, laidLooks := .later }
def CoreOneUptoCardSaid : Prop := Claim7.holds Tryd.pinned (.plain (OpenSpec.upto coreOneSpec)) coreOneUptoCard

/-- THE SECOND FORM's CARD OF 'bautalaw06.CoreAdds'. -/
def coreAddsUptoCard : Claim7 := { stood := { row := coreAddsUptoRow, standIns := [], harness := (true, "5002dc05fc869093de6d1a8fcc6fd05879e7d9375400e45bf949022b5c6377c3"), looks := false }, kinds := [], alts := [], laidByText := true, laidKinds := [.data, .data], laidTests := true, laidLooks := .later }
def CoreAddsUptoCardSaid : Prop := Claim7.holds Tryd.pinned (.plain (OpenSpec.upto coreAddsSpec)) coreAddsUptoCard
end Rows
end Go.Proofs.YtcigchpcffpemaaDoor
