/-
  DERIVED. GIVEN WITH THE SEED: THE CARDS: each row of YtckdffcfemekcaaDoorRows.lean that lists a variable, with what it lists TIED to the program's text (the seventh form; the later family's looks); each row that meets fmt, with fmt's text TOLD by the authors' own Lean function (tested against real Go, not proved from fmt's source: count such statements apart). THE CARD IS WHAT COUNTS. Prove the row's statement (the work); the ties are given (YtckdffcfemekcaaDoorTie.lean); close each card by the builder's one call (the guide's Derived/Test/ToyasCard.lean, 'card_holds'). Laid BY PROGRAM, IN A SANDBOX (cutbox-door.mjs). By AI agents, Wed Nov 11 2026. No macro, syntax, notation, axiom, sorry.
-/
import Derived.Test.YtckdffcfemekcaaDoorRows
import GoSem.ClaimSeven
namespace Go.Proofs.YtckdffcfemekcaaDoor
namespace Rows

/-- THE TIED CARD OF 'bautalaw02.ThumbPuts'. -/
def thumbPutsCard : Claim7 := { stood := { row := thumbPutsRow, standIns := [], harness := (true, "3e3cb6d553f9511339ab7af7c5aad096c532ebb8c08d4b9ae3fad008389ed177"), looks := false }, kinds := [], alts := [], laidByText := true, laidKinds := [.data, .data], laidTests := true, laidLooks := .later }
def ThumbPutsCardSaid : Prop := Claim7.holds Tryd.pinned (.plain (OpenSpec.ofChange thumbPutsSpec)) thumbPutsCard

/-- THE TIED CARD OF 'bautalaw02.ThumbTakes'. -/
def thumbTakesCard : Claim7 := { stood := { row := thumbTakesRow, standIns := [], harness := (true, "3e3cb6d553f9511339ab7af7c5aad096c532ebb8c08d4b9ae3fad008389ed177"), looks := false }, kinds := [], alts := [], laidByText := true, laidKinds := [.data, .data], laidTests := true, laidLooks := .later }
def ThumbTakesCardSaid : Prop := Claim7.holds Tryd.pinned (.plain (OpenSpec.ofChange thumbTakesSpec)) thumbTakesCard

/-- THE TIED CARD OF 'bautalaw02.ThumbRegs'. -/
def thumbRegsCard : Claim7 := { stood := { row := thumbRegsRow, standIns := [], harness := (true, "3e3cb6d553f9511339ab7af7c5aad096c532ebb8c08d4b9ae3fad008389ed177"), looks := false }, kinds := [], alts := [], laidByText := true, laidKinds := [.data, .data], laidTests := true, laidLooks := .later }
def ThumbRegsCardSaid : Prop := Claim7.holds Tryd.pinned (.plain (OpenSpec.ofChange thumbRegsSpec)) thumbRegsCard

/-- THE TIED CARD OF 'bautalaw02.ThumbOne'. -/
def thumbOneCard : Claim7 := { stood := { row := thumbOneRow, standIns := [], harness := (true, "3e3cb6d553f9511339ab7af7c5aad096c532ebb8c08d4b9ae3fad008389ed177"), looks := false }, kinds := [], alts := [], laidByText := true, laidKinds := [.data, .data], laidTests := true, laidLooks := .later }
def ThumbOneCardSaid : Prop := Claim7.holds Tryd.pinned (.plain (OpenSpec.ofChange thumbOneSpec)) thumbOneCard

/-- THE TIED CARD OF 'bautalaw02.ThumbRises'. -/
def thumbRisesCard : Claim7 := { stood := { row := thumbRisesRow, standIns := [], harness := (true, "3e3cb6d553f9511339ab7af7c5aad096c532ebb8c08d4b9ae3fad008389ed177"), looks := false }, kinds := [], alts := [], laidByText := true, laidKinds := [.data, .data], laidTests := true, laidLooks := .later }
def ThumbRisesCardSaid : Prop := Claim7.holds Tryd.pinned (.plain (OpenSpec.ofChange thumbRisesSpec)) thumbRisesCard

/-- THE SECOND FORM's CARD OF 'bautalaw02.ThumbPuts'. -/
def thumbPutsUptoCard : Claim7 := { stood := { row := thumbPutsUptoRow, standIns := [], harness := (true, "3e3cb6d553f9511339ab7af7c5aad096c532ebb8c08d4b9ae3fad008389ed177"), looks := false }, kinds := [], alts := [], laidByText := true, laidKinds := [.data, .data], laidTests := true, laidLooks := .later }
def ThumbPutsUptoCardSaid : Prop := Claim7.holds Tryd.pinned (.plain (OpenSpec.upto thumbPutsSpec)) thumbPutsUptoCard

/-- THE SECOND FORM's CARD OF 'bautalaw02.ThumbTakes'. -/
def thumbTakesUptoCard : Claim7 := { stood := { row := thumbTakesUptoRow, standIns := [], harness := (true, "3e3cb6d553f9511339ab7af7c5aad096c532ebb8c08d4b9ae3fad008389ed177"), looks := false }, kinds := [], alts := [], laidByText := true, laidKinds := [.data, .data], laidTests := true, laidLooks := .later }
def ThumbTakesUptoCardSaid : Prop := Claim7.holds Tryd.pinned (.plain (OpenSpec.upto thumbTakesSpec)) thumbTakesUptoCard

/-- THE SECOND FORM's CARD OF 'bautalaw02.ThumbRegs'. -/
def thumbRegsUptoCard : Claim7 := { stood := { row := thumbRegsUptoRow, standIns := [], harness := (true, "3e3cb6d553f9511339ab7af7c5aad096c532ebb8c08d4b9ae3fad008389ed177"), looks := false }, kinds := [], alts := [], laidByText := true, laidKinds := [.data, .data], laidTests := true, laidLooks := .later }
def ThumbRegsUptoCardSaid : Prop := Claim7.holds Tryd.pinned (.plain (OpenSpec.upto thumbRegsSpec)) thumbRegsUptoCard

/-- THE SECOND FORM's CARD OF 'bautalaw02.ThumbOne'. -/
def thumbOneUptoCard : Claim7 := { stood := { row := thumbOneUptoRow, standIns := [], harness := (true, "3e3cb6d553f9511339ab7af7c5aad096c532ebb8c08d4b9ae3fad008389ed177"), looks := false }, kinds := [], alts := [], laidByText := true, laidKinds := [.data, .data], laidTests := true, laidLooks := .later }
def ThumbOneUptoCardSaid : Prop := Claim7.holds Tryd.pinned (.plain (OpenSpec.upto thumbOneSpec)) thumbOneUptoCard

/-- THE SECOND FORM's CARD OF 'bautalaw02.ThumbRises'. -/
def thumbRisesUptoCard : Claim7 := { stood := { row := thumbRisesUptoRow, standIns := [], harness := (true, "3e3cb6d553f9511339ab7af7c5aad096c532ebb8c08d4b9ae3fad008389ed177"), looks := false }, kinds := [], alts := [], laidByText := true, laidKinds := [.data, .data], laidTests := true, laidLooks := .later }
def ThumbRisesUptoCardSaid : Prop := Claim7.holds Tryd.pinned (.plain (OpenSpec.upto thumbRisesSpec)) thumbRisesUptoCard
end Rows
end Go.Proofs.YtckdffcfemekcaaDoor
