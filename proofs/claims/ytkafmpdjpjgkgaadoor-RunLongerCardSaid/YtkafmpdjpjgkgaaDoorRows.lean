/-
  NARROWER THAN 'FOR EVERY INPUT', by the rows' own cells (each row's printed sentence says how): RunExecs: laid · RunLonger: laid · RunRoads: laid · RunBounds: laid · RunTape: laid.
  DERIVED. THE GIVEN ROWS OF THIS SEAT. 5 by the template 'for every input the law returns true; each argument reads behind the call as it read before'; 0 by the template 'total and deterministic' (their statements: YtkafmpdjpjgkgaaDoorTotals.lean).
  GIVEN WITH THE SEED: the statements are not yours to turn. If you find one false, say at which input.
  Laid BY PROGRAM, IN A SANDBOX (cutbox-rows.mjs): the forced cells as the released guide's own fill.sh prints them over the translation 2db1549339aea86f… (all of the seat's roots in one cut). By AI agents, Wed Nov 11 2026. No macro, syntax, notation, axiom, sorry.
-/
import Derived.Test.YtkafmpdjpjgkgaaDoorChecked
import GoSem.Claim
import GoSem.ClaimJoined
import GoSem.ClaimMapViews
import Derived.JoinedTies
import Derived.KernelRfl
namespace Go.Proofs.YtkafmpdjpjgkgaaDoor
/- THE CELL 'sum', in the pinned program and in every row, IS THE sha256 OF THE DUMP (.gsa) THAT YtkafmpdjpjgkgaaDoorProg.lean LOADS. Nothing in Lean hashes anything: it is a label: what it is worth is what the hold of that sum in a sandbox is worth. -/
noncomputable def Tryd.pinned : Pinned := { name := "ytkafmpdjpjgkgaadoor", sum := "2db1549339aea86f0d3cd665a82101fb3f91812c49451dccb7dcb4a2e553fbfc", checked := Tryd.checked }
namespace Rows
def none {H : Type} : Left H := { results := [], args := [] }

/- WHAT THE LISTED PACKAGE-LEVEL VARIABLES READ AS WHEN THE CALL BEGINS. Each datum BY PROGRAM (the guide's laid-datum.mjs) off the statement by which the dump's own 'gosem.cut.vars' lays the variable. In a bare row this is a premise. The card (YtkafmpdjpjgkgaaDoorCards.lean) ties it to the program's text. -/
def laid_bauta_thumb_fields {H : Type} : DataW H := .agg [.agg [.lit (.int .i64 0), .lit (.int .u64 0), .lit (.int .u64 3), .lit (.int .i64 0), .lit (.int .i64 7)], .agg [.lit (.int .i64 0), .lit (.int .u64 8), .lit (.int .u64 3), .lit (.int .i64 0), .lit (.int .i64 7)], .agg [.lit (.int .i64 0), .lit (.int .u64 8), .lit (.int .u64 4), .lit (.int .i64 0), .lit (.int .i64 13)], .agg [.lit (.int .i64 1), .lit (.int .u64 3), .lit (.int .u64 3), .lit (.int .i64 0), .lit (.int .i64 7)], .agg [.lit (.int .i64 2), .lit (.int .u64 3), .lit (.int .u64 3), .lit (.int .i64 0), .lit (.int .i64 7)], .agg [.lit (.int .i64 2), .lit (.int .u64 6), .lit (.int .u64 3), .lit (.int .i64 0), .lit (.int .i64 7)], .agg [.lit (.int .i64 3), .lit (.int .u64 0), .lit (.int .u64 8), .lit (.int .i64 0), .lit (.int .i64 255)], .agg [.lit (.int .i64 3), .lit (.int .u64 6), .lit (.int .u64 5), .lit (.int .i64 0), .lit (.int .i64 31)], .agg [.lit (.int .i64 3), .lit (.int .u64 6), .lit (.int .u64 5), .lit (.int .i64 1), .lit (.int .i64 32)], .agg [.lit (.int .i64 3), .lit (.int .u64 6), .lit (.int .u64 3), .lit (.int .i64 0), .lit (.int .i64 7)], .agg [.lit (.int .i64 3), .lit (.int .u64 6), .lit (.int .u64 4), .lit (.int .i64 0), .lit (.int .i64 15)], .agg [.lit (.int .i64 3), .lit (.int .u64 0), .lit (.int .u64 11), .lit (.int .i64 (-1024)), .lit (.int .i64 1023)], .agg [.lit (.int .i64 3), .lit (.int .u64 0), .lit (.int .u64 8), .lit (.int .i64 (-128)), .lit (.int .i64 127)]]
def laid_bauta_thumb_shapes {H : Type} : DataW H := .agg [.agg [.lit (.int .u16 4), .lit (.int .u64 11), .slice [.lit (.int .i64 1), .lit (.int .i64 6)] []], .agg [.lit (.int .u16 5), .lit (.int .u64 11), .slice [.lit (.int .i64 1), .lit (.int .i64 6)] []], .agg [.lit (.int .u16 6), .lit (.int .u64 11), .slice [.lit (.int .i64 1), .lit (.int .i64 6)] []], .agg [.lit (.int .u16 7), .lit (.int .u64 11), .slice [.lit (.int .i64 1), .lit (.int .i64 6)] []], .agg [.lit (.int .u16 0), .lit (.int .u64 11), .slice [.lit (.int .i64 7), .lit (.int .i64 4), .lit (.int .i64 0)] []], .agg [.lit (.int .u16 1), .lit (.int .u64 11), .slice [.lit (.int .i64 8), .lit (.int .i64 4), .lit (.int .i64 0)] []], .agg [.lit (.int .u16 2), .lit (.int .u64 11), .slice [.lit (.int .i64 8), .lit (.int .i64 4), .lit (.int .i64 0)] []], .agg [.lit (.int .u16 12), .lit (.int .u64 9), .slice [.lit (.int .i64 5), .lit (.int .i64 3), .lit (.int .i64 0)] []], .agg [.lit (.int .u16 13), .lit (.int .u64 9), .slice [.lit (.int .i64 5), .lit (.int .i64 3), .lit (.int .i64 0)] []], .agg [.lit (.int .u16 14), .lit (.int .u64 9), .slice [.lit (.int .i64 9), .lit (.int .i64 3), .lit (.int .i64 0)] []], .agg [.lit (.int .u16 15), .lit (.int .u64 9), .slice [.lit (.int .i64 9), .lit (.int .i64 3), .lit (.int .i64 0)] []], .agg [.lit (.int .u16 16), .lit (.int .u64 10), .slice [.lit (.int .i64 10), .lit (.int .i64 4), .lit (.int .i64 0)] []], .agg [.lit (.int .u16 13), .lit (.int .u64 11), .slice [.lit (.int .i64 7), .lit (.int .i64 3), .lit (.int .i64 0)] []], .agg [.lit (.int .u16 12), .lit (.int .u64 11), .slice [.lit (.int .i64 7), .lit (.int .i64 3), .lit (.int .i64 0)] []], .agg [.lit (.int .u16 44), .lit (.int .u64 9), .slice [.lit (.int .i64 5), .lit (.int .i64 3), .lit (.int .i64 0)] []], .agg [.lit (.int .u16 40), .lit (.int .u64 9), .slice [.lit (.int .i64 5), .lit (.int .i64 3), .lit (.int .i64 0)] []], .agg [.lit (.int .u16 9), .lit (.int .u64 11), .slice [.lit (.int .i64 1), .lit (.int .i64 6)] []], .agg [.lit (.int .u16 28), .lit (.int .u64 11), .slice [.lit (.int .i64 11)] []], .agg [.lit (.int .u16 13), .lit (.int .u64 12), .slice [.lit (.int .i64 2), .lit (.int .i64 12)] []], .agg [.lit (.int .u16 48896), .lit (.int .u64 0), .slice [] []], .agg [.lit (.int .u16 190), .lit (.int .u64 8), .slice [.lit (.int .i64 6)] []]]

/-- 'bautalaw08.RunExecs': WHATEVER THE INPUT: true; the input reads as it did. -/
def runExecsSpec : ChangeSpec := { name := "runExecs", fn := fun _ => fun
  | [d1, d2] => { results := [.lit (.bool true)], args := [d1, d2] }
  | _ => none }
def runExecsRow : OpenClaim := { program := "ytkafmpdjpjgkgaadoor", sum := "2db1549339aea86f0d3cd665a82101fb3f91812c49451dccb7dcb4a2e553fbfc", func := "bauta/bautalaw08.RunExecs", spec := "runExecs", named := ["bauta/thumb.shapes", "bauta/thumb.fields"], apart := false, laid := [("bauta/thumb.fields", laid_bauta_thumb_fields), ("bauta/thumb.shapes", laid_bauta_thumb_shapes)] }
def RunExecsSaid : Prop := runExecsRow.holds Tryd.pinned (OpenSpec.ofChange runExecsSpec)

/-- ITS FALSE NEIGHBOUR: 'it returns false'. Refute it at one input. -/
def runExecsWrong : ChangeSpec := { name := "runExecs", fn := fun _ => fun
  | [d1, d2] => { results := [.lit (.bool false)], args := [d1, d2] }
  | _ => none }
def RunExecsWrongFalsely : Prop := runExecsRow.holds Tryd.pinned (OpenSpec.ofChange runExecsWrong)

/-- 'bautalaw08.RunLonger': WHATEVER THE INPUT: true; the input reads as it did. -/
def runLongerSpec : ChangeSpec := { name := "runLonger", fn := fun _ => fun
  | [d1, d2, d3] => { results := [.lit (.bool true)], args := [d1, d2, d3] }
  | _ => none }
def runLongerRow : OpenClaim := { program := "ytkafmpdjpjgkgaadoor", sum := "2db1549339aea86f0d3cd665a82101fb3f91812c49451dccb7dcb4a2e553fbfc", func := "bauta/bautalaw08.RunLonger", spec := "runLonger", named := ["bauta/thumb.shapes", "bauta/thumb.fields"], apart := false, laid := [("bauta/thumb.fields", laid_bauta_thumb_fields), ("bauta/thumb.shapes", laid_bauta_thumb_shapes)] }
def RunLongerSaid : Prop := runLongerRow.holds Tryd.pinned (OpenSpec.ofChange runLongerSpec)

/-- ITS FALSE NEIGHBOUR: 'it returns false'. Refute it at one input. -/
def runLongerWrong : ChangeSpec := { name := "runLonger", fn := fun _ => fun
  | [d1, d2, d3] => { results := [.lit (.bool false)], args := [d1, d2, d3] }
  | _ => none }
def RunLongerWrongFalsely : Prop := runLongerRow.holds Tryd.pinned (OpenSpec.ofChange runLongerWrong)

/-- 'bautalaw08.RunRoads': WHATEVER THE INPUT: true; the input reads as it did. -/
def runRoadsSpec : ChangeSpec := { name := "runRoads", fn := fun _ => fun
  | [d1, d2, d3] => { results := [.lit (.bool true)], args := [d1, d2, d3] }
  | _ => none }
def runRoadsRow : OpenClaim := { program := "ytkafmpdjpjgkgaadoor", sum := "2db1549339aea86f0d3cd665a82101fb3f91812c49451dccb7dcb4a2e553fbfc", func := "bauta/bautalaw08.RunRoads", spec := "runRoads", named := ["bauta/thumb.shapes", "bauta/thumb.fields"], apart := false, laid := [("bauta/thumb.fields", laid_bauta_thumb_fields), ("bauta/thumb.shapes", laid_bauta_thumb_shapes)] }
def RunRoadsSaid : Prop := runRoadsRow.holds Tryd.pinned (OpenSpec.ofChange runRoadsSpec)

/-- ITS FALSE NEIGHBOUR: 'it returns false'. Refute it at one input. -/
def runRoadsWrong : ChangeSpec := { name := "runRoads", fn := fun _ => fun
  | [d1, d2, d3] => { results := [.lit (.bool false)], args := [d1, d2, d3] }
  | _ => none }
def RunRoadsWrongFalsely : Prop := runRoadsRow.holds Tryd.pinned (OpenSpec.ofChange runRoadsWrong)

/-- 'bautalaw08.RunBounds': WHATEVER THE INPUT: true; the input reads as it did. -/
def runBoundsSpec : ChangeSpec := { name := "runBounds", fn := fun _ => fun
  | [d1, d2] => { results := [.lit (.bool true)], args := [d1, d2] }
  | _ => none }
def runBoundsRow : OpenClaim := { program := "ytkafmpdjpjgkgaadoor", sum := "2db1549339aea86f0d3cd665a82101fb3f91812c49451dccb7dcb4a2e553fbfc", func := "bauta/bautalaw08.RunBounds", spec := "runBounds", named := ["bauta/thumb.shapes", "bauta/thumb.fields"], apart := false, laid := [("bauta/thumb.fields", laid_bauta_thumb_fields), ("bauta/thumb.shapes", laid_bauta_thumb_shapes)] }
def RunBoundsSaid : Prop := runBoundsRow.holds Tryd.pinned (OpenSpec.ofChange runBoundsSpec)

/-- ITS FALSE NEIGHBOUR: 'it returns false'. Refute it at one input. -/
def runBoundsWrong : ChangeSpec := { name := "runBounds", fn := fun _ => fun
  | [d1, d2] => { results := [.lit (.bool false)], args := [d1, d2] }
  | _ => none }
def RunBoundsWrongFalsely : Prop := runBoundsRow.holds Tryd.pinned (OpenSpec.ofChange runBoundsWrong)

/-- 'bautalaw08.RunTape': WHATEVER THE INPUT: true; the input reads as it did. -/
def runTapeSpec : ChangeSpec := { name := "runTape", fn := fun _ => fun
  | [d1, d2] => { results := [.lit (.bool true)], args := [d1, d2] }
  | _ => none }
def runTapeRow : OpenClaim := { program := "ytkafmpdjpjgkgaadoor", sum := "2db1549339aea86f0d3cd665a82101fb3f91812c49451dccb7dcb4a2e553fbfc", func := "bauta/bautalaw08.RunTape", spec := "runTape", named := ["bauta/thumb.shapes", "bauta/thumb.fields"], apart := false, laid := [("bauta/thumb.fields", laid_bauta_thumb_fields), ("bauta/thumb.shapes", laid_bauta_thumb_shapes)] }
def RunTapeSaid : Prop := runTapeRow.holds Tryd.pinned (OpenSpec.ofChange runTapeSpec)

/-- ITS FALSE NEIGHBOUR: 'it returns false'. Refute it at one input. -/
def runTapeWrong : ChangeSpec := { name := "runTape", fn := fun _ => fun
  | [d1, d2] => { results := [.lit (.bool false)], args := [d1, d2] }
  | _ => none }
def RunTapeWrongFalsely : Prop := runTapeRow.holds Tryd.pinned (OpenSpec.ofChange runTapeWrong)

/- THE SECOND FORM. 'bulk': how many values and letters a reading holds, each counted each time it is reached (what is shared counts as often as it is met; a slice's spare places count too). A statement '..UptoSaid' is the law's where the arguments, and the package variables that the reading takes, are together of bulk at most 1048576: NARROWER than '..Said'. Prove '..Said' where nothing that the law and all that it calls make is longer than what came in: it says more and counts as full. Else prove '..UptoSaid'. A law counts once. -/
mutual
def uptoBulk {H : Type} : DataW H → Nat
  | .lit (.string bytes) => bytes.length + 1
  | .lit _ => 1
  | .nil => 1
  | .ptr d => uptoBulk d + 1
  | .slice elems spare => uptoBulkAll elems + uptoBulkAll spare + 1
  | .agg parts => uptoBulkAll parts + 1
  | .iface _ d => uptoBulk d + 1
  | .map entries => uptoBulkEntries entries + 1
  | .held _ => 1
def uptoBulkAll {H : Type} : List (DataW H) → Nat
  | [] => 0
  | d :: r => uptoBulk d + uptoBulkAll r
def uptoBulkEntries {H : Type} : List (Lit × DataW H) → Nat
  | [] => 0
  | x :: r => uptoBulkEntry x + uptoBulkEntries r
def uptoBulkEntry {H : Type} : Lit × DataW H → Nat
  | (.string bytes, d) => bytes.length + uptoBulk d + 1
  | (_, d) => uptoBulk d + 1
 end
def uptoSmall : (H : Type) → List (DataW H) → Bool := fun _ ds => decide (uptoBulkAll ds ≤ 1048576)
def OpenSpec.upto (s : _root_.Go.ChangeSpec) : _root_.Go.OpenSpec := { _root_.Go.OpenSpec.ofChange s with cond := some uptoSmall }

/-- 'bautalaw08.RunExecs', WHERE WHAT IT READS IS OF BULK AT MOST 1048576: true; the input reads as it did. -/
def runExecsUptoRow : OpenClaim := { program := "ytkafmpdjpjgkgaadoor", sum := "2db1549339aea86f0d3cd665a82101fb3f91812c49451dccb7dcb4a2e553fbfc", func := "bauta/bautalaw08.RunExecs", spec := "runExecs", named := ["bauta/thumb.shapes", "bauta/thumb.fields"], apart := false, laid := [("bauta/thumb.fields", laid_bauta_thumb_fields), ("bauta/thumb.shapes", laid_bauta_thumb_shapes)], narrowed := true }
def RunExecsUptoSaid : Prop := runExecsUptoRow.holds Tryd.pinned (OpenSpec.upto runExecsSpec)

/-- 'bautalaw08.RunLonger', WHERE WHAT IT READS IS OF BULK AT MOST 1048576: true; the input reads as it did. -/
def runLongerUptoRow : OpenClaim := { program := "ytkafmpdjpjgkgaadoor", sum := "2db1549339aea86f0d3cd665a82101fb3f91812c49451dccb7dcb4a2e553fbfc", func := "bauta/bautalaw08.RunLonger", spec := "runLonger", named := ["bauta/thumb.shapes", "bauta/thumb.fields"], apart := false, laid := [("bauta/thumb.fields", laid_bauta_thumb_fields), ("bauta/thumb.shapes", laid_bauta_thumb_shapes)], narrowed := true }
def RunLongerUptoSaid : Prop := runLongerUptoRow.holds Tryd.pinned (OpenSpec.upto runLongerSpec)

/-- 'bautalaw08.RunRoads', WHERE WHAT IT READS IS OF BULK AT MOST 1048576: true; the input reads as it did. -/
def runRoadsUptoRow : OpenClaim := { program := "ytkafmpdjpjgkgaadoor", sum := "2db1549339aea86f0d3cd665a82101fb3f91812c49451dccb7dcb4a2e553fbfc", func := "bauta/bautalaw08.RunRoads", spec := "runRoads", named := ["bauta/thumb.shapes", "bauta/thumb.fields"], apart := false, laid := [("bauta/thumb.fields", laid_bauta_thumb_fields), ("bauta/thumb.shapes", laid_bauta_thumb_shapes)], narrowed := true }
def RunRoadsUptoSaid : Prop := runRoadsUptoRow.holds Tryd.pinned (OpenSpec.upto runRoadsSpec)

/-- 'bautalaw08.RunBounds', WHERE WHAT IT READS IS OF BULK AT MOST 1048576: true; the input reads as it did. -/
def runBoundsUptoRow : OpenClaim := { program := "ytkafmpdjpjgkgaadoor", sum := "2db1549339aea86f0d3cd665a82101fb3f91812c49451dccb7dcb4a2e553fbfc", func := "bauta/bautalaw08.RunBounds", spec := "runBounds", named := ["bauta/thumb.shapes", "bauta/thumb.fields"], apart := false, laid := [("bauta/thumb.fields", laid_bauta_thumb_fields), ("bauta/thumb.shapes", laid_bauta_thumb_shapes)], narrowed := true }
def RunBoundsUptoSaid : Prop := runBoundsUptoRow.holds Tryd.pinned (OpenSpec.upto runBoundsSpec)

/-- 'bautalaw08.RunTape', WHERE WHAT IT READS IS OF BULK AT MOST 1048576: true; the input reads as it did. -/
def runTapeUptoRow : OpenClaim := { program := "ytkafmpdjpjgkgaadoor", sum := "2db1549339aea86f0d3cd665a82101fb3f91812c49451dccb7dcb4a2e553fbfc", func := "bauta/bautalaw08.RunTape", spec := "runTape", named := ["bauta/thumb.shapes", "bauta/thumb.fields"], apart := false, laid := [("bauta/thumb.fields", laid_bauta_thumb_fields), ("bauta/thumb.shapes", laid_bauta_thumb_shapes)], narrowed := true }
def RunTapeUptoSaid : Prop := runTapeUptoRow.holds Tryd.pinned (OpenSpec.upto runTapeSpec)

end Rows
end Go.Proofs.YtkafmpdjpjgkgaaDoor
