/-
  DERIVED. GIVEN WITH THE SEED: THE CARDS: each row of YtkafmpdjpjgkgaaDoorRows.lean that lists a variable, with what it lists TIED to the program's text (the seventh form; the later family's looks); each row that meets fmt, with fmt's text TOLD by the authors' own Lean function (tested against real Go, not proved from fmt's source: count such statements apart). THE CARD IS WHAT COUNTS. Prove the row's statement (the work); the ties are given (YtkafmpdjpjgkgaaDoorTie.lean); close each card by the builder's one call (the guide's Derived/Test/ToyasCard.lean, 'card_holds'). Laid BY PROGRAM, IN A SANDBOX (cutbox-door.mjs). By AI agents, Wed Nov 11 2026. No macro, syntax, notation, axiom, sorry.
-/
import Derived.Test.YtkafmpdjpjgkgaaDoorRows
import GoSem.ClaimSeven
namespace Go.Proofs.YtkafmpdjpjgkgaaDoor
namespace Rows

/-- THE TIED CARD OF 'bautalaw08.RunExecs'. -/
def runExecsCard : Claim7 := { stood := { row := runExecsRow, standIns := [], harness := (true, "3f7017af8ce91e5be9fc794cda18b6309a4f570f5e185fe1a279bc85686cf238"), looks := false }, kinds := [], alts := [], laidByText := true, laidKinds := [.data, .data], laidTests := true, laidLooks := .later }
def RunExecsCardSaid : Prop := Claim7.holds Tryd.pinned (.plain (OpenSpec.ofChange runExecsSpec)) runExecsCard

/-- THE TIED CARD OF 'bautalaw08.RunLonger'. -/
def runLongerCard : Claim7 := { stood := { row := runLongerRow, standIns := [], harness := (true, "3f7017af8ce91e5be9fc794cda18b6309a4f570f5e185fe1a279bc85686cf238"), looks := false }, kinds := [], alts := [], laidByText := true, laidKinds := [.data, .data], laidTests := true, laidLooks := .later }
def RunLongerCardSaid : Prop := Claim7.holds Tryd.pinned (.plain (OpenSpec.ofChange runLongerSpec)) runLongerCard

/-- THE TIED CARD OF 'bautalaw08.RunRoads'. -/
def runRoadsCard : Claim7 := { stood := { row := runRoadsRow, standIns := [], harness := (true, "3f7017af8ce91e5be9fc794cda18b6309a4f570f5e185fe1a279bc85686cf238"), looks := false }, kinds := [], alts := [], laidByText := true, laidKinds := [.data, .data], laidTests := true, laidLooks := .later }
def RunRoadsCardSaid : Prop := Claim7.holds Tryd.pinned (.plain (OpenSpec.ofChange runRoadsSpec)) runRoadsCard

/-- THE TIED CARD OF 'bautalaw08.RunBounds'. -/
def runBoundsCard : Claim7 := { stood := { row := runBoundsRow, standIns := [], harness := (true, "3f7017af8ce91e5be9fc794cda18b6309a4f570f5e185fe1a279bc85686cf238"), looks := false }, kinds := [], alts := [], laidByText := true, laidKinds := [.data, .data], laidTests := true, laidLooks := .later }
def RunBoundsCardSaid : Prop := Claim7.holds Tryd.pinned (.plain (OpenSpec.ofChange runBoundsSpec)) runBoundsCard

/-- THE TIED CARD OF 'bautalaw08.RunTape'. -/
def runTapeCard : Claim7 := { stood := { row := runTapeRow, standIns := [], harness := (true, "3f7017af8ce91e5be9fc794cda18b6309a4f570f5e185fe1a279bc85686cf238"), looks := false }, kinds := [], alts := [], laidByText := true, laidKinds := [.data, .data], laidTests := true, laidLooks := .later }
def RunTapeCardSaid : Prop := Claim7.holds Tryd.pinned (.plain (OpenSpec.ofChange runTapeSpec)) runTapeCard

/-- THE SECOND FORM's CARD OF 'bautalaw08.RunExecs'. -/
def runExecsUptoCard : Claim7 := { stood := { row := runExecsUptoRow, standIns := [], harness := (true, "3f7017af8ce91e5be9fc794cda18b6309a4f570f5e185fe1a279bc85686cf238"), looks := false }, kinds := [], alts := [], laidByText := true, laidKinds := [.data, .data], laidTests := true, laidLooks := .later }
def RunExecsUptoCardSaid : Prop := Claim7.holds Tryd.pinned (.plain (OpenSpec.upto runExecsSpec)) runExecsUptoCard

/-- THE SECOND FORM's CARD OF 'bautalaw08.RunLonger'. -/
def runLongerUptoCard : Claim7 := { stood := { row := runLongerUptoRow, standIns := [], harness := (true, "3f7017af8ce91e5be9fc794cda18b6309a4f570f5e185fe1a279bc85686cf238"), looks := false }, kinds := [], alts := [], laidByText := true, laidKinds := [.data, .data], laidTests := true, laidLooks := .later }
def RunLongerUptoCardSaid : Prop := Claim7.holds Tryd.pinned (.plain (OpenSpec.upto runLongerSpec)) runLongerUptoCard

/-- THE SECOND FORM's CARD OF 'bautalaw08.RunRoads'. -/
def runRoadsUptoCard : Claim7 := { stood := { row := runRoadsUptoRow, standIns := [], harness := (true, "3f7017af8ce91e5be9fc794cda18b6309a4f570f5e185fe1a279bc85686cf238"), looks := false }, kinds := [], alts := [], laidByText := true, laidKinds := [.data, .data], laidTests := true, laidLooks := .later }
def RunRoadsUptoCardSaid : Prop := Claim7.holds Tryd.pinned (.plain (OpenSpec.upto runRoadsSpec)) runRoadsUptoCard

/-- THE SECOND FORM's CARD OF 'bautalaw08.RunBounds'. -/
def runBoundsUptoCard : Claim7 := { stood := { row := runBoundsUptoRow, standIns := [], harness := (true, "3f7017af8ce91e5be9fc794cda18b6309a4f570f5e185fe1a279bc85686cf238"), looks := false }, kinds := [], alts := [], laidByText := true, laidKinds := [.data, .data], laidTests := true, laidLooks := .later }
def RunBoundsUptoCardSaid : Prop := Claim7.holds Tryd.pinned (.plain (OpenSpec.upto runBoundsSpec)) runBoundsUptoCard

/-- THE SECOND FORM's CARD OF 'bautalaw08.RunTape'. -/
def runTapeUptoCard : Claim7 := { stood := { row := runTapeUptoRow, standIns := [], harness := (true, "3f7017af8ce91e5be9fc794cda18b6309a4f570f5e185fe1a279bc85686cf238"), looks := false }, kinds := [], alts := [], laidByText := true, laidKinds := [.data, .data], laidTests := true, laidLooks := .later }
def RunTapeUptoCardSaid : Prop := Claim7.holds Tryd.pinned (.plain (OpenSpec.upto runTapeSpec)) runTapeUptoCard
end Rows
end Go.Proofs.YtkafmpdjpjgkgaaDoor
