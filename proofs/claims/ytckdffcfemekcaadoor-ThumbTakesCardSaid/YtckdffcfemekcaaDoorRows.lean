/-
  NARROWER THAN 'FOR EVERY INPUT', by the rows' own cells (each row's printed sentence says how): ThumbPuts: laid · ThumbTakes: laid · ThumbRegs: laid · ThumbOne: laid · ThumbRises: laid.
  DERIVED. THE GIVEN ROWS OF THIS SEAT. 5 by the template 'for every input the law returns true; each argument reads behind the call as it read before'; 0 by the template 'total and deterministic' (their statements: YtckdffcfemekcaaDoorTotals.lean).
  GIVEN WITH THE SEED: the statements are not yours to turn. If you find one false, say at which input.
  Laid BY PROGRAM, IN A SANDBOX (cutbox-rows.mjs): the forced cells as the released guide's own fill.sh prints them over the translation 2a8ebff872409e2e… (all of the seat's roots in one cut). By AI agents, Wed Nov 11 2026. No macro, syntax, notation, axiom, sorry.
-/
import Derived.Test.YtckdffcfemekcaaDoorChecked
import GoSem.Claim
import GoSem.ClaimJoined
import GoSem.ClaimMapViews
import Derived.JoinedTies
import Derived.KernelRfl
namespace Go.Proofs.YtckdffcfemekcaaDoor
/- THE CELL 'sum', in the pinned program and in every row, IS THE sha256 OF THE DUMP (.gsa) THAT YtckdffcfemekcaaDoorProg.lean LOADS. Nothing in Lean hashes anything: it is a label: what it is worth is what the hold of that sum in a sandbox is worth. -/
noncomputable def Tryd.pinned : Pinned := { name := "ytckdffcfemekcaadoor", sum := "2a8ebff872409e2ed66c1ae56425095adf1f56deb1e61ea66b2e35ab8b1297e3", checked := Tryd.checked }
namespace Rows
def none {H : Type} : Left H := { results := [], args := [] }

/- WHAT THE LISTED PACKAGE-LEVEL VARIABLES READ AS WHEN THE CALL BEGINS. Each datum BY PROGRAM (the guide's laid-datum.mjs) off the statement by which the dump's own 'gosem.cut.vars' lays the variable. In a bare row this is a premise. The card (YtckdffcfemekcaaDoorCards.lean) ties it to the program's text. -/
def laid_bauta_thumb_fields {H : Type} : DataW H := .agg [.agg [.lit (.int .i64 0), .lit (.int .u64 0), .lit (.int .u64 3), .lit (.int .i64 0), .lit (.int .i64 7)], .agg [.lit (.int .i64 0), .lit (.int .u64 8), .lit (.int .u64 3), .lit (.int .i64 0), .lit (.int .i64 7)], .agg [.lit (.int .i64 0), .lit (.int .u64 8), .lit (.int .u64 4), .lit (.int .i64 0), .lit (.int .i64 13)], .agg [.lit (.int .i64 1), .lit (.int .u64 3), .lit (.int .u64 3), .lit (.int .i64 0), .lit (.int .i64 7)], .agg [.lit (.int .i64 2), .lit (.int .u64 3), .lit (.int .u64 3), .lit (.int .i64 0), .lit (.int .i64 7)], .agg [.lit (.int .i64 2), .lit (.int .u64 6), .lit (.int .u64 3), .lit (.int .i64 0), .lit (.int .i64 7)], .agg [.lit (.int .i64 3), .lit (.int .u64 0), .lit (.int .u64 8), .lit (.int .i64 0), .lit (.int .i64 255)], .agg [.lit (.int .i64 3), .lit (.int .u64 6), .lit (.int .u64 5), .lit (.int .i64 0), .lit (.int .i64 31)], .agg [.lit (.int .i64 3), .lit (.int .u64 6), .lit (.int .u64 5), .lit (.int .i64 1), .lit (.int .i64 32)], .agg [.lit (.int .i64 3), .lit (.int .u64 6), .lit (.int .u64 3), .lit (.int .i64 0), .lit (.int .i64 7)], .agg [.lit (.int .i64 3), .lit (.int .u64 6), .lit (.int .u64 4), .lit (.int .i64 0), .lit (.int .i64 15)], .agg [.lit (.int .i64 3), .lit (.int .u64 0), .lit (.int .u64 11), .lit (.int .i64 (-1024)), .lit (.int .i64 1023)], .agg [.lit (.int .i64 3), .lit (.int .u64 0), .lit (.int .u64 8), .lit (.int .i64 (-128)), .lit (.int .i64 127)]]
def laid_bauta_thumb_shapes {H : Type} : DataW H := .agg [.agg [.lit (.int .u16 4), .lit (.int .u64 11), .slice [.lit (.int .i64 1), .lit (.int .i64 6)] []], .agg [.lit (.int .u16 5), .lit (.int .u64 11), .slice [.lit (.int .i64 1), .lit (.int .i64 6)] []], .agg [.lit (.int .u16 6), .lit (.int .u64 11), .slice [.lit (.int .i64 1), .lit (.int .i64 6)] []], .agg [.lit (.int .u16 7), .lit (.int .u64 11), .slice [.lit (.int .i64 1), .lit (.int .i64 6)] []], .agg [.lit (.int .u16 0), .lit (.int .u64 11), .slice [.lit (.int .i64 7), .lit (.int .i64 4), .lit (.int .i64 0)] []], .agg [.lit (.int .u16 1), .lit (.int .u64 11), .slice [.lit (.int .i64 8), .lit (.int .i64 4), .lit (.int .i64 0)] []], .agg [.lit (.int .u16 2), .lit (.int .u64 11), .slice [.lit (.int .i64 8), .lit (.int .i64 4), .lit (.int .i64 0)] []], .agg [.lit (.int .u16 12), .lit (.int .u64 9), .slice [.lit (.int .i64 5), .lit (.int .i64 3), .lit (.int .i64 0)] []], .agg [.lit (.int .u16 13), .lit (.int .u64 9), .slice [.lit (.int .i64 5), .lit (.int .i64 3), .lit (.int .i64 0)] []], .agg [.lit (.int .u16 14), .lit (.int .u64 9), .slice [.lit (.int .i64 9), .lit (.int .i64 3), .lit (.int .i64 0)] []], .agg [.lit (.int .u16 15), .lit (.int .u64 9), .slice [.lit (.int .i64 9), .lit (.int .i64 3), .lit (.int .i64 0)] []], .agg [.lit (.int .u16 16), .lit (.int .u64 10), .slice [.lit (.int .i64 10), .lit (.int .i64 4), .lit (.int .i64 0)] []], .agg [.lit (.int .u16 13), .lit (.int .u64 11), .slice [.lit (.int .i64 7), .lit (.int .i64 3), .lit (.int .i64 0)] []], .agg [.lit (.int .u16 12), .lit (.int .u64 11), .slice [.lit (.int .i64 7), .lit (.int .i64 3), .lit (.int .i64 0)] []], .agg [.lit (.int .u16 44), .lit (.int .u64 9), .slice [.lit (.int .i64 5), .lit (.int .i64 3), .lit (.int .i64 0)] []], .agg [.lit (.int .u16 40), .lit (.int .u64 9), .slice [.lit (.int .i64 5), .lit (.int .i64 3), .lit (.int .i64 0)] []], .agg [.lit (.int .u16 9), .lit (.int .u64 11), .slice [.lit (.int .i64 1), .lit (.int .i64 6)] []], .agg [.lit (.int .u16 28), .lit (.int .u64 11), .slice [.lit (.int .i64 11)] []], .agg [.lit (.int .u16 13), .lit (.int .u64 12), .slice [.lit (.int .i64 2), .lit (.int .i64 12)] []], .agg [.lit (.int .u16 48896), .lit (.int .u64 0), .slice [] []], .agg [.lit (.int .u16 190), .lit (.int .u64 8), .slice [.lit (.int .i64 6)] []]]

/-- 'bautalaw02.ThumbPuts': WHATEVER THE INPUT: true; the input reads as it did. -/
def thumbPutsSpec : ChangeSpec := { name := "thumbPuts", fn := fun _ => fun
  | [d] => { results := [.lit (.bool true)], args := [d] }
  | _ => none }
def thumbPutsRow : OpenClaim := { program := "ytckdffcfemekcaadoor", sum := "2a8ebff872409e2ed66c1ae56425095adf1f56deb1e61ea66b2e35ab8b1297e3", func := "bauta/bautalaw02.ThumbPuts", spec := "thumbPuts", named := ["bauta/thumb.shapes", "bauta/thumb.fields"], apart := false, laid := [("bauta/thumb.fields", laid_bauta_thumb_fields), ("bauta/thumb.shapes", laid_bauta_thumb_shapes)] }
def ThumbPutsSaid : Prop := thumbPutsRow.holds Tryd.pinned (OpenSpec.ofChange thumbPutsSpec)

/-- ITS FALSE NEIGHBOUR: 'it returns false'. Refute it at one input. -/
def thumbPutsWrong : ChangeSpec := { name := "thumbPuts", fn := fun _ => fun
  | [d] => { results := [.lit (.bool false)], args := [d] }
  | _ => none }
def ThumbPutsWrongFalsely : Prop := thumbPutsRow.holds Tryd.pinned (OpenSpec.ofChange thumbPutsWrong)

/-- 'bautalaw02.ThumbTakes': WHATEVER THE INPUT: true; the input reads as it did. -/
def thumbTakesSpec : ChangeSpec := { name := "thumbTakes", fn := fun _ => fun
  | [d] => { results := [.lit (.bool true)], args := [d] }
  | _ => none }
def thumbTakesRow : OpenClaim := { program := "ytckdffcfemekcaadoor", sum := "2a8ebff872409e2ed66c1ae56425095adf1f56deb1e61ea66b2e35ab8b1297e3", func := "bauta/bautalaw02.ThumbTakes", spec := "thumbTakes", named := ["bauta/thumb.shapes", "bauta/thumb.fields"], apart := false, laid := [("bauta/thumb.fields", laid_bauta_thumb_fields), ("bauta/thumb.shapes", laid_bauta_thumb_shapes)] }
def ThumbTakesSaid : Prop := thumbTakesRow.holds Tryd.pinned (OpenSpec.ofChange thumbTakesSpec)

/-- ITS FALSE NEIGHBOUR: 'it returns false'. Refute it at one input. -/
def thumbTakesWrong : ChangeSpec := { name := "thumbTakes", fn := fun _ => fun
  | [d] => { results := [.lit (.bool false)], args := [d] }
  | _ => none }
def ThumbTakesWrongFalsely : Prop := thumbTakesRow.holds Tryd.pinned (OpenSpec.ofChange thumbTakesWrong)

/-- 'bautalaw02.ThumbRegs': WHATEVER THE INPUT: true; the input reads as it did. -/
def thumbRegsSpec : ChangeSpec := { name := "thumbRegs", fn := fun _ => fun
  | [d] => { results := [.lit (.bool true)], args := [d] }
  | _ => none }
def thumbRegsRow : OpenClaim := { program := "ytckdffcfemekcaadoor", sum := "2a8ebff872409e2ed66c1ae56425095adf1f56deb1e61ea66b2e35ab8b1297e3", func := "bauta/bautalaw02.ThumbRegs", spec := "thumbRegs", recurses := true, named := ["bauta/thumb.shapes", "bauta/thumb.fields"], apart := false, laid := [("bauta/thumb.fields", laid_bauta_thumb_fields), ("bauta/thumb.shapes", laid_bauta_thumb_shapes)] }
def ThumbRegsSaid : Prop := thumbRegsRow.holds Tryd.pinned (OpenSpec.ofChange thumbRegsSpec)

/-- ITS FALSE NEIGHBOUR: 'it returns false'. Refute it at one input. -/
def thumbRegsWrong : ChangeSpec := { name := "thumbRegs", fn := fun _ => fun
  | [d] => { results := [.lit (.bool false)], args := [d] }
  | _ => none }
def ThumbRegsWrongFalsely : Prop := thumbRegsRow.holds Tryd.pinned (OpenSpec.ofChange thumbRegsWrong)

/-- 'bautalaw02.ThumbOne': WHATEVER THE INPUT: true; the input reads as it did. -/
def thumbOneSpec : ChangeSpec := { name := "thumbOne", fn := fun _ => fun
  | [d1, d2] => { results := [.lit (.bool true)], args := [d1, d2] }
  | _ => none }
def thumbOneRow : OpenClaim := { program := "ytckdffcfemekcaadoor", sum := "2a8ebff872409e2ed66c1ae56425095adf1f56deb1e61ea66b2e35ab8b1297e3", func := "bauta/bautalaw02.ThumbOne", spec := "thumbOne", named := ["bauta/thumb.shapes", "bauta/thumb.fields"], apart := false, laid := [("bauta/thumb.fields", laid_bauta_thumb_fields), ("bauta/thumb.shapes", laid_bauta_thumb_shapes)] }
def ThumbOneSaid : Prop := thumbOneRow.holds Tryd.pinned (OpenSpec.ofChange thumbOneSpec)

/-- ITS FALSE NEIGHBOUR: 'it returns false'. Refute it at one input. -/
def thumbOneWrong : ChangeSpec := { name := "thumbOne", fn := fun _ => fun
  | [d1, d2] => { results := [.lit (.bool false)], args := [d1, d2] }
  | _ => none }
def ThumbOneWrongFalsely : Prop := thumbOneRow.holds Tryd.pinned (OpenSpec.ofChange thumbOneWrong)

/-- 'bautalaw02.ThumbRises': WHATEVER THE INPUT: true; the input reads as it did. -/
def thumbRisesSpec : ChangeSpec := { name := "thumbRises", fn := fun _ => fun
  | [d] => { results := [.lit (.bool true)], args := [d] }
  | _ => none }
def thumbRisesRow : OpenClaim := { program := "ytckdffcfemekcaadoor", sum := "2a8ebff872409e2ed66c1ae56425095adf1f56deb1e61ea66b2e35ab8b1297e3", func := "bauta/bautalaw02.ThumbRises", spec := "thumbRises", recurses := true, named := ["bauta/thumb.shapes", "bauta/thumb.fields"], apart := false, laid := [("bauta/thumb.fields", laid_bauta_thumb_fields), ("bauta/thumb.shapes", laid_bauta_thumb_shapes)] }
def ThumbRisesSaid : Prop := thumbRisesRow.holds Tryd.pinned (OpenSpec.ofChange thumbRisesSpec)

/-- ITS FALSE NEIGHBOUR: 'it returns false'. Refute it at one input. -/
def thumbRisesWrong : ChangeSpec := { name := "thumbRises", fn := fun _ => fun
  | [d] => { results := [.lit (.bool false)], args := [d] }
  | _ => none }
def ThumbRisesWrongFalsely : Prop := thumbRisesRow.holds Tryd.pinned (OpenSpec.ofChange thumbRisesWrong)

/- THE SECOND FORM. 'bulk': how many values and letters a reading holds, each counted each time it is reached (what is shared counts as often as it is met; a slice's spare places count too). A statement '..UptoSaid' is the law's where the arguments, and the package variables that the reading takes, are together of bulk at most 1048576: NARROWER than '..Said'. Prove '..Said' where nothing that the law and all that it calls make is longer than what came in: it says more and counts as full. Else prove '..UptoSaid'. A law counts once. -/
mutual
def uptoBulk {H : Type} : DataW H → Nat
  | .lit (.string bytes) => bytes.length + 1
  | .lit _ => 1
  | .nil => 1
  | .ptr d => uptoBulk d + 1
  | .slice elems spare => uptoBulkAll elems + uptoBulkAll spare + 1
  | .agg parts => uptoBulkAll parts + 1
  | .iface _ d => uptoBulk d + 1
  | .map entries => uptoBulkEntries entries + 1
  | .held _ => 1
def uptoBulkAll {H : Type} : List (DataW H) → Nat
  | [] => 0
  | d :: r => uptoBulk d + uptoBulkAll r
def uptoBulkEntries {H : Type} : List (Lit × DataW H) → Nat
  | [] => 0
  | x :: r => uptoBulkEntry x + uptoBulkEntries r
def uptoBulkEntry {H : Type} : Lit × DataW H → Nat
  | (.string bytes, d) => bytes.length + uptoBulk d + 1
  | (_, d) => uptoBulk d + 1
 end
def uptoSmall : (H : Type) → List (DataW H) → Bool := fun _ ds => decide (uptoBulkAll ds ≤ 1048576)
def OpenSpec.upto (s : _root_.Go.ChangeSpec) : _root_.Go.OpenSpec := { _root_.Go.OpenSpec.ofChange s with cond := some uptoSmall }

/-- 'bautalaw02.ThumbPuts', WHERE WHAT IT READS IS OF BULK AT MOST 1048576: true; the input reads as it did. -/
def thumbPutsUptoRow : OpenClaim := { program := "ytckdffcfemekcaadoor", sum := "2a8ebff872409e2ed66c1ae56425095adf1f56deb1e61ea66b2e35ab8b1297e3", func := "bauta/bautalaw02.ThumbPuts", spec := "thumbPuts", named := ["bauta/thumb.shapes", "bauta/thumb.fields"], apart := false, laid := [("bauta/thumb.fields", laid_bauta_thumb_fields), ("bauta/thumb.shapes", laid_bauta_thumb_shapes)], narrowed := true }
def ThumbPutsUptoSaid : Prop := thumbPutsUptoRow.holds Tryd.pinned (OpenSpec.upto thumbPutsSpec)

/-- 'bautalaw02.ThumbTakes', WHERE WHAT IT READS IS OF BULK AT MOST 1048576: true; the input reads as it did. -/
def thumbTakesUptoRow : OpenClaim := { program := "ytckdffcfemekcaadoor", sum := "2a8ebff872409e2ed66c1ae56425095adf1f56deb1e61ea66b2e35ab8b1297e3", func := "bauta/bautalaw02.ThumbTakes", spec := "thumbTakes", named := ["bauta/thumb.shapes", "bauta/thumb.fields"], apart := false, laid := [("bauta/thumb.fields", laid_bauta_thumb_fields), ("bauta/thumb.shapes", laid_bauta_thumb_shapes)], narrowed := true }
def ThumbTakesUptoSaid : Prop := thumbTakesUptoRow.holds Tryd.pinned (OpenSpec.upto thumbTakesSpec)

/-- 'bautalaw02.ThumbRegs', WHERE WHAT IT READS IS OF BULK AT MOST 1048576: true; the input reads as it did. -/
def thumbRegsUptoRow : OpenClaim := { program := "ytckdffcfemekcaadoor", sum := "2a8ebff872409e2ed66c1ae56425095adf1f56deb1e61ea66b2e35ab8b1297e3", func := "bauta/bautalaw02.ThumbRegs", spec := "thumbRegs", recurses := true, named := ["bauta/thumb.shapes", "bauta/thumb.fields"], apart := false, laid := [("bauta/thumb.fields", laid_bauta_thumb_fields), ("bauta/thumb.shapes", laid_bauta_thumb_shapes)], narrowed := true }
def ThumbRegsUptoSaid : Prop := thumbRegsUptoRow.holds Tryd.pinned (OpenSpec.upto thumbRegsSpec)

/-- 'bautalaw02.ThumbOne', WHERE WHAT IT READS IS OF BULK AT MOST 1048576: true; the input reads as it did. -/
def thumbOneUptoRow : OpenClaim := { program := "ytckdffcfemekcaadoor", sum := "2a8ebff872409e2ed66c1ae56425095adf1f56deb1e61ea66b2e35ab8b1297e3", func := "bauta/bautalaw02.ThumbOne", spec := "thumbOne", named := ["bauta/thumb.shapes", "bauta/thumb.fields"], apart := false, laid := [("bauta/thumb.fields", laid_bauta_thumb_fields), ("bauta/thumb.shapes", laid_bauta_thumb_shapes)], narrowed := true }
def ThumbOneUptoSaid : Prop := thumbOneUptoRow.holds Tryd.pinned (OpenSpec.upto thumbOneSpec)

/-- 'bautalaw02.ThumbRises', WHERE WHAT IT READS IS OF BULK AT MOST 1048576: true; the input reads as it did. -/
def thumbRisesUptoRow : OpenClaim := { program := "ytckdffcfemekcaadoor", sum := "2a8ebff872409e2ed66c1ae56425095adf1f56deb1e61ea66b2e35ab8b1297e3", func := "bauta/bautalaw02.ThumbRises", spec := "thumbRises", recurses := true, named := ["bauta/thumb.shapes", "bauta/thumb.fields"], apart := false, laid := [("bauta/thumb.fields", laid_bauta_thumb_fields), ("bauta/thumb.shapes", laid_bauta_thumb_shapes)], narrowed := true }
def ThumbRisesUptoSaid : Prop := thumbRisesUptoRow.holds Tryd.pinned (OpenSpec.upto thumbRisesSpec)

end Rows
end Go.Proofs.YtckdffcfemekcaaDoor
