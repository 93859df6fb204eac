/-
  DERIVED. GIVEN WITH THE SEED: THE CARDS: each row of YtpoepignpdfleaaGreatDoorRows.lean that lists a variable, with what it lists TIED to the program's text (the seventh form; the later family's looks); each row that meets fmt, with fmt's text TOLD by the authors' own Lean function (tested against real Go, not proved from fmt's source: count such statements apart). THE CARD IS WHAT COUNTS. Prove the row's statement (the work); the ties are given (YtpoepignpdfleaaGreatDoorTie.lean); close each card by the builder's one call (the guide's Derived/Test/ToyasCard.lean, 'card_holds'). Laid BY PROGRAM, IN A SANDBOX (cutbox-door.mjs). By AI agents, Wed Nov 11 2026. No macro, syntax, notation, axiom, sorry.
-/
import Derived.Test.YtpoepignpdfleaaGreatDoorRows
import GoSem.ClaimSeven
namespace Go.Proofs.YtpoepignpdfleaaGreatDoor
namespace Rows

/-- THE TIED CARD OF 'bautalaw12.NamesPrograms'. -/
def namesProgramsCard : Claim7 := { stood := { row := namesProgramsRow, standIns := [], harness := (true, "78d1782768b26b22a65d772b094cac8fb402c9f653333b8a4f83cf44bd9d6707"), looks := true }, kinds := [], alts := [], laidByText := true, laidKinds := [.data, .pinned], laidTests := true, laidLooks := .later }
def NamesProgramsCardSaid : Prop := Claim7.holds Tryz.pinned (.plain (OpenSpec.ofChange namesProgramsSpec)) namesProgramsCard

/-- THE TIED CARD OF 'bautalaw12.NamesUses'. -/
def namesUsesCard : Claim7 := { stood := { row := namesUsesRow, standIns := [], harness := (true, "78d1782768b26b22a65d772b094cac8fb402c9f653333b8a4f83cf44bd9d6707"), looks := true }, kinds := [], alts := [], laidByText := true, laidKinds := [.data, .pinned], laidTests := true, laidLooks := .later }
def NamesUsesCardSaid : Prop := Claim7.holds Tryz.pinned (.plain (OpenSpec.ofChange namesUsesSpec)) namesUsesCard

/-- THE TIED CARD OF 'bautalaw12.NamesLeft'. -/
def namesLeftCard : Claim7 := { stood := { row := namesLeftRow, standIns := [], harness := (true, "78d1782768b26b22a65d772b094cac8fb402c9f653333b8a4f83cf44bd9d6707"), looks := true }, kinds := [], alts := [], laidByText := true, laidKinds := [.data, .pinned], laidTests := true, laidLooks := .later }
def NamesLeftCardSaid : Prop := Claim7.holds Tryz.pinned (.plain (OpenSpec.ofChange namesLeftSpec)) namesLeftCard

/-- THE SECOND FORM's CARD OF 'bautalaw12.NamesPrograms'. -/
def namesProgramsUptoCard : Claim7 := { stood := { row := namesProgramsUptoRow, standIns := [], harness := (true, "78d1782768b26b22a65d772b094cac8fb402c9f653333b8a4f83cf44bd9d6707"), looks := true }, kinds := [], alts := [], laidByText := true, laidKinds := [.data, .pinned], laidTests := true, laidLooks := .later }
def NamesProgramsUptoCardSaid : Prop := Claim7.holds Tryz.pinned (.plain (OpenSpec.upto namesProgramsSpec)) namesProgramsUptoCard

/-- THE SECOND FORM's CARD OF 'bautalaw12.NamesUses'. -/
def namesUsesUptoCard : Claim7 := { stood := { row := namesUsesUptoRow, standIns := [], harness := (true, "78d1782768b26b22a65d772b094cac8fb402c9f653333b8a4f83cf44bd9d6707"), looks := true }, kinds := [], alts := [], laidByText := true, laidKinds := [.data, .pinned], laidTests := true, laidLooks := .later }
def NamesUsesUptoCardSaid : Prop := Claim7.holds Tryz.pinned (.plain (OpenSpec.upto namesUsesSpec)) namesUsesUptoCard

/-- THE SECOND FORM's CARD OF 'bautalaw12.NamesLeft'. -/
def namesLeftUptoCard : Claim7 := { stood := { row := namesLeftUptoRow, standIns := [], harness := (true, "78d1782768b26b22a65d772b094cac8fb402c9f653333b8a4f83cf44bd9d6707"), looks := true }, kinds := [], alts := [], laidByText := true, laidKinds := [.data, .pinned], laidTests := true, laidLooks := .later }
def NamesLeftUptoCardSaid : Prop := Claim7.holds Tryz.pinned (.plain (OpenSpec.upto namesLeftSpec)) namesLeftUptoCard
end Rows
end Go.Proofs.YtpoepignpdfleaaGreatDoor
