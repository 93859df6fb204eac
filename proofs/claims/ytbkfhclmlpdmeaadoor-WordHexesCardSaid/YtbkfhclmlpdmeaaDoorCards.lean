/-
  DERIVED. GIVEN WITH THE SEED: THE CARDS: each row of YtbkfhclmlpdmeaaDoorRows.lean that lists a variable, with what it lists TIED to the program's text (the seventh form; the later family's looks); each row that meets fmt, with fmt's text TOLD by the authors' own Lean function (tested against real Go, not proved from fmt's source: count such statements apart). THE CARD IS WHAT COUNTS. Prove the row's statement (the work); the ties are given (YtbkfhclmlpdmeaaDoorTie.lean); close each card by the builder's one call (the guide's Derived/Test/ToyasCard.lean, 'card_holds'). Laid BY PROGRAM, IN A SANDBOX (cutbox-door.mjs). By AI agents, Wed Nov 11 2026. No macro, syntax, notation, axiom, sorry.
-/
import Derived.Test.YtbkfhclmlpdmeaaDoorRows
import GoSem.ClaimSeven
namespace Go.Proofs.YtbkfhclmlpdmeaaDoor
namespace Rows

/-- THE TIED CARD OF 'bautalaw01.WordAdds'. -/
def wordAddsCard : Claim7 := { stood := { row := wordAddsRow, standIns := [], harness := (true, "22150cf060f0df720beda4de51b31c238b5946682c24021d0e7595d5f6b501e8"), looks := false }, kinds := [], alts := [], laidByText := true, laidKinds := [.data, .data, .data], laidTests := true, laidLooks := .later }
def WordAddsCardSaid : Prop := Claim7.holds Tryd.pinned (.plain (OpenSpec.ofChange wordAddsSpec)) wordAddsCard

/-- THE TIED CARD OF 'bautalaw01.WordTurns'. -/
def wordTurnsCard : Claim7 := { stood := { row := wordTurnsRow, standIns := [], harness := (true, "22150cf060f0df720beda4de51b31c238b5946682c24021d0e7595d5f6b501e8"), looks := false }, kinds := [], alts := [], laidByText := true, laidKinds := [.data, .data, .data], laidTests := true, laidLooks := .later }
def WordTurnsCardSaid : Prop := Claim7.holds Tryd.pinned (.plain (OpenSpec.ofChange wordTurnsSpec)) wordTurnsCard

/-- THE TIED CARD OF 'bautalaw01.WordSelects'. -/
def wordSelectsCard : Claim7 := { stood := { row := wordSelectsRow, standIns := [], harness := (true, "22150cf060f0df720beda4de51b31c238b5946682c24021d0e7595d5f6b501e8"), looks := false }, kinds := [], alts := [], laidByText := true, laidKinds := [.data, .data, .data], laidTests := true, laidLooks := .later }
def WordSelectsCardSaid : Prop := Claim7.holds Tryd.pinned (.plain (OpenSpec.ofChange wordSelectsSpec)) wordSelectsCard

/-- THE TIED CARD OF 'bautalaw01.WordNumbers'. -/
def wordNumbersCard : Claim7 := { stood := { row := wordNumbersRow, standIns := [], harness := (true, "22150cf060f0df720beda4de51b31c238b5946682c24021d0e7595d5f6b501e8"), looks := false }, kinds := [], alts := [], laidByText := true, laidKinds := [.data, .data, .data], laidTests := true, laidLooks := .later }
def WordNumbersCardSaid : Prop := Claim7.holds Tryd.pinned (.plain (OpenSpec.ofChange wordNumbersSpec)) wordNumbersCard

/-- THE TIED CARD OF 'bautalaw01.WordHexes'. -/
def wordHexesCard : Claim7 := { stood := { row := wordHexesRow, standIns := [], harness := (true, "22150cf060f0df720beda4de51b31c238b5946682c24021d0e7595d5f6b501e8"), looks := false }, kinds := [], alts := [], laidByText := true, laidKinds := [.data, .data, .data], laidTests := true, laidLooks := .later }
def WordHexesCardSaid : Prop := Claim7.holds Tryd.pinned (.plain (OpenSpec.ofChange wordHexesSpec)) wordHexesCard

/-- THE TIED CARD OF 'bautalaw01.WordLess'. -/
def wordLessCard : Claim7 := { stood := { row := wordLessRow, standIns := [], harness := (true, "22150cf060f0df720beda4de51b31c238b5946682c24021d0e7595d5f6b501e8"), looks := false }, kinds := [], alts := [], laidByText := true, laidKinds := [.data, .data, .data], laidTests := true, laidLooks := .later }
def WordLessCardSaid : Prop := Claim7.holds Tryd.pinned (.plain (OpenSpec.ofChange wordLessSpec)) wordLessCard

/-- THE TIED CARD OF 'bautalaw01.WordTwice'. -/
def wordTwiceCard : Claim7 := { stood := { row := wordTwiceRow, standIns := [], harness := (true, "22150cf060f0df720beda4de51b31c238b5946682c24021d0e7595d5f6b501e8"), looks := false }, kinds := [], alts := [], laidByText := true, laidKinds := [.data, .data, .data], laidTests := true, laidLooks := .later }
def WordTwiceCardSaid : Prop := Claim7.holds Tryd.pinned (.plain (OpenSpec.ofChange wordTwiceSpec)) wordTwiceCard

/-- THE TIED CARD OF 'bautalaw01.WordHalves'. -/
def wordHalvesCard : Claim7 := { stood := { row := wordHalvesRow, standIns := [], harness := (true, "22150cf060f0df720beda4de51b31c238b5946682c24021d0e7595d5f6b501e8"), looks := false }, kinds := [], alts := [], laidByText := true, laidKinds := [.data, .data, .data], laidTests := true, laidLooks := .later }
def WordHalvesCardSaid : Prop := Claim7.holds Tryd.pinned (.plain (OpenSpec.ofChange wordHalvesSpec)) wordHalvesCard

/-- THE SECOND FORM's CARD OF 'bautalaw01.WordAdds'. -/
def wordAddsUptoCard : Claim7 := { stood := { row := wordAddsUptoRow, standIns := [], harness := (true, "22150cf060f0df720beda4de51b31c238b5946682c24021d0e7595d5f6b501e8"), looks := false }, kinds := [], alts := [], laidByText := true, laidKinds := [.data, .data, .data], laidTests := true, laidLooks := .later }
def WordAddsUptoCardSaid : Prop := Claim7.holds Tryd.pinned (.plain (OpenSpec.upto wordAddsSpec)) wordAddsUptoCard

/-- THE SECOND FORM's CARD OF 'bautalaw01.WordTurns'. -/
def wordTurnsUptoCard : Claim7 := { stood := { row := wordTurnsUptoRow, standIns := [], harness := (true, "22150cf060f0df720beda4de51b31c238b5946682c24021d0e7595d5f6b501e8"), looks := false }, kinds := [], alts := [], laidByText := true, laidKinds := [.data, .data, .data], laidTests := true, laidLooks := .later }
def WordTurnsUptoCardSaid : Prop := Claim7.holds Tryd.pinned (.plain (OpenSpec.upto wordTurnsSpec)) wordTurnsUptoCard

/-- THE SECOND FORM's CARD OF 'bautalaw01.WordSelects'. -/
def wordSelectsUptoCard : Claim7 := { stood := { row := wordSelectsUptoRow, standIns := [], harness := (true, "22150cf060f0df720beda4de51b31c238b5946682c24021d0e7595d5f6b501e8"), looks := false }, kinds := [], alts := [], laidByText := true, laidKinds := [.data, .data, .data], laidTests := true, laidLooks := .later }
def WordSelectsUptoCardSaid : Prop := Claim7.holds Tryd.pinned (.plain (OpenSpec.upto wordSelectsSpec)) wordSelectsUptoCard

/-- THE SECOND FORM's CARD OF 'bautalaw01.WordNumbers'. -/
def wordNumbersUptoCard : Claim7 := { stood := { row := wordNumbersUptoRow, standIns := [], harness := (true, "22150cf060f0df720beda4de51b31c238b5946682c24021d0e7595d5f6b501e8"), looks := false }, kinds := [], alts := [], laidByText := true, laidKinds := [.data, .data, .data], laidTests := true, laidLooks := .later }
def WordNumbersUptoCardSaid : Prop := Claim7.holds Tryd.pinned (.plain (OpenSpec.upto wordNumbersSpec)) wordNumbersUptoCard

/-- THE SECOND FORM's CARD OF 'bautalaw01.WordHexes'. -/
def wordHexesUptoCard : Claim7 := { stood := { row := wordHexesUptoRow, standIns := [], harness := (true, "22150cf060f0df720beda4de51b31c238b5946682c24021d0e7595d5f6b501e8"), looks := false }, kinds := [], alts := [], laidByText := true, laidKinds := [.data, .data, .data], laidTests := true, laidLooks := .later }
def WordHexesUptoCardSaid : Prop := Claim7.holds Tryd.pinned (.plain (OpenSpec.upto wordHexesSpec)) wordHexesUptoCard

/-- THE SECOND FORM's CARD OF 'bautalaw01.WordLess'. -/
def wordLessUptoCard : Claim7 := { stood := { row := wordLessUptoRow, standIns := [], harness := (true, "22150cf060f0df720beda4de51b31c238b5946682c24021d0e7595d5f6b501e8"), looks := false }, kinds := [], alts := [], laidByText := true, laidKinds := [.data, .data, .data], laidTests := true, laidLooks := .later }
def WordLessUptoCardSaid : Prop := Claim7.holds Tryd.pinned (.plain (OpenSpec.upto wordLessSpec)) wordLessUptoCard

/-- THE SECOND FORM's CARD OF 'bautalaw01.WordTwice'. -/
def wordTwiceUptoCard : Claim7 := { stood := { row := wordTwiceUptoRow, standIns := [], harness := (true, "22150cf060f0df720beda4de51b31c238b5946682c24021d0e7595d5f6b501e8"), looks := false }, kinds := [], alts := [], laidByText := true, laidKinds := [.data, .data, .data], laidTests := true, laidLooks := .later }
def WordTwiceUptoCardSaid : Prop := Claim7.holds Tryd.pinned (.plain (OpenSpec.upto wordTwiceSpec)) wordTwiceUptoCard

/-- THE SECOND FORM's CARD OF 'bautalaw01.WordHalves'. -/
def wordHalvesUptoCard : Claim7 := { stood := { row := wordHalvesUptoRow, standIns := [], harness := (true, "22150cf060f0df720beda4de51b31c238b5946682c24021d0e7595d5f6b501e8"), looks := false }, kinds := [], alts := [], laidByText := true, laidKinds := [.data, .data, .data], laidTests := true, laidLooks := .later }
def WordHalvesUptoCardSaid : Prop := Claim7.holds Tryd.pinned (.plain (OpenSpec.upto wordHalvesSpec)) wordHalvesUptoCard
end Rows
end Go.Proofs.YtbkfhclmlpdmeaaDoor
