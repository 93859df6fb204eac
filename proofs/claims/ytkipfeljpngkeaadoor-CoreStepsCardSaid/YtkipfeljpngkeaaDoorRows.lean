/-
  NARROWER THAN 'FOR EVERY INPUT', by the rows' own cells (each row's printed sentence says how): CoreSteps: laid · CoreRuns: laid · CoreHolds: laid · CoreOne: laid · CoreAdds: laid.
  DERIVED. THE GIVEN ROWS OF THIS SEAT. 5 by the template 'for every input the law returns true; each argument reads behind the call as it read before'; 0 by the template 'total and deterministic' (their statements: YtkipfeljpngkeaaDoorTotals.lean).
  GIVEN WITH THE SEED: the statements are not yours to turn. If you find one false, say at which input.
  Laid BY PROGRAM, IN A SANDBOX (cutbox-rows.mjs): the forced cells as the released guide's own fill.sh prints them over the translation ab72c0431db10913… (all of the seat's roots in one cut). By AI agents, Wed Nov 11 2026. No macro, syntax, notation, axiom, sorry.
-/
import Derived.Test.YtkipfeljpngkeaaDoorChecked
import GoSem.Claim
import GoSem.ClaimJoined
import GoSem.ClaimMapViews
import Derived.JoinedTies
import Derived.KernelRfl
namespace Go.Proofs.YtkipfeljpngkeaaDoor
/- THE CELL 'sum', in the pinned program and in every row, IS THE sha256 OF THE DUMP (.gsa) THAT YtkipfeljpngkeaaDoorProg.lean LOADS. Nothing in Lean hashes anything: it is a label: what it is worth is what the hold of that sum in a sandbox is worth. -/
noncomputable def Tryd.pinned : Pinned := { name := "ytkipfeljpngkeaadoor", sum := "ab72c0431db109130f5aa12566b7269b2affc3d02eddcb59fd8b7e9d430e79f1", checked := Tryd.checked }
namespace Rows
def none {H : Type} : Left H := { results := [], args := [] }

/- WHAT THE LISTED PACKAGE-LEVEL VARIABLES READ AS WHEN THE CALL BEGINS. Each datum BY PROGRAM (the guide's laid-datum.mjs) off the statement by which the dump's own 'gosem.cut.vars' lays the variable. In a bare row this is a premise. The card (YtkipfeljpngkeaaDoorCards.lean) ties it to the program's text. -/
def laid_bauta_thumb_fields {H : Type} : DataW H := .agg [.agg [.lit (.int .i64 0), .lit (.int .u64 0), .lit (.int .u64 3), .lit (.int .i64 0), .lit (.int .i64 7)], .agg [.lit (.int .i64 0), .lit (.int .u64 8), .lit (.int .u64 3), .lit (.int .i64 0), .lit (.int .i64 7)], .agg [.lit (.int .i64 0), .lit (.int .u64 8), .lit (.int .u64 4), .lit (.int .i64 0), .lit (.int .i64 13)], .agg [.lit (.int .i64 1), .lit (.int .u64 3), .lit (.int .u64 3), .lit (.int .i64 0), .lit (.int .i64 7)], .agg [.lit (.int .i64 2), .lit (.int .u64 3), .lit (.int .u64 3), .lit (.int .i64 0), .lit (.int .i64 7)], .agg [.lit (.int .i64 2), .lit (.int .u64 6), .lit (.int .u64 3), .lit (.int .i64 0), .lit (.int .i64 7)], .agg [.lit (.int .i64 3), .lit (.int .u64 0), .lit (.int .u64 8), .lit (.int .i64 0), .lit (.int .i64 255)], .agg [.lit (.int .i64 3), .lit (.int .u64 6), .lit (.int .u64 5), .lit (.int .i64 0), .lit (.int .i64 31)], .agg [.lit (.int .i64 3), .lit (.int .u64 6), .lit (.int .u64 5), .lit (.int .i64 1), .lit (.int .i64 32)], .agg [.lit (.int .i64 3), .lit (.int .u64 6), .lit (.int .u64 3), .lit (.int .i64 0), .lit (.int .i64 7)], .agg [.lit (.int .i64 3), .lit (.int .u64 6), .lit (.int .u64 4), .lit (.int .i64 0), .lit (.int .i64 15)], .agg [.lit (.int .i64 3), .lit (.int .u64 0), .lit (.int .u64 11), .lit (.int .i64 (-1024)), .lit (.int .i64 1023)], .agg [.lit (.int .i64 3), .lit (.int .u64 0), .lit (.int .u64 8), .lit (.int .i64 (-128)), .lit (.int .i64 127)]]
def laid_bauta_thumb_shapes {H : Type} : DataW H := .agg [.agg [.lit (.int .u16 4), .lit (.int .u64 11), .slice [.lit (.int .i64 1), .lit (.int .i64 6)] []], .agg [.lit (.int .u16 5), .lit (.int .u64 11), .slice [.lit (.int .i64 1), .lit (.int .i64 6)] []], .agg [.lit (.int .u16 6), .lit (.int .u64 11), .slice [.lit (.int .i64 1), .lit (.int .i64 6)] []], .agg [.lit (.int .u16 7), .lit (.int .u64 11), .slice [.lit (.int .i64 1), .lit (.int .i64 6)] []], .agg [.lit (.int .u16 0), .lit (.int .u64 11), .slice [.lit (.int .i64 7), .lit (.int .i64 4), .lit (.int .i64 0)] []], .agg [.lit (.int .u16 1), .lit (.int .u64 11), .slice [.lit (.int .i64 8), .lit (.int .i64 4), .lit (.int .i64 0)] []], .agg [.lit (.int .u16 2), .lit (.int .u64 11), .slice [.lit (.int .i64 8), .lit (.int .i64 4), .lit (.int .i64 0)] []], .agg [.lit (.int .u16 12), .lit (.int .u64 9), .slice [.lit (.int .i64 5), .lit (.int .i64 3), .lit (.int .i64 0)] []], .agg [.lit (.int .u16 13), .lit (.int .u64 9), .slice [.lit (.int .i64 5), .lit (.int .i64 3), .lit (.int .i64 0)] []], .agg [.lit (.int .u16 14), .lit (.int .u64 9), .slice [.lit (.int .i64 9), .lit (.int .i64 3), .lit (.int .i64 0)] []], .agg [.lit (.int .u16 15), .lit (.int .u64 9), .slice [.lit (.int .i64 9), .lit (.int .i64 3), .lit (.int .i64 0)] []], .agg [.lit (.int .u16 16), .lit (.int .u64 10), .slice [.lit (.int .i64 10), .lit (.int .i64 4), .lit (.int .i64 0)] []], .agg [.lit (.int .u16 13), .lit (.int .u64 11), .slice [.lit (.int .i64 7), .lit (.int .i64 3), .lit (.int .i64 0)] []], .agg [.lit (.int .u16 12), .lit (.int .u64 11), .slice [.lit (.int .i64 7), .lit (.int .i64 3), .lit (.int .i64 0)] []], .agg [.lit (.int .u16 44), .lit (.int .u64 9), .slice [.lit (.int .i64 5), .lit (.int .i64 3), .lit (.int .i64 0)] []], .agg [.lit (.int .u16 40), .lit (.int .u64 9), .slice [.lit (.int .i64 5), .lit (.int .i64 3), .lit (.int .i64 0)] []], .agg [.lit (.int .u16 9), .lit (.int .u64 11), .slice [.lit (.int .i64 1), .lit (.int .i64 6)] []], .agg [.lit (.int .u16 28), .lit (.int .u64 11), .slice [.lit (.int .i64 11)] []], .agg [.lit (.int .u16 13), .lit (.int .u64 12), .slice [.lit (.int .i64 2), .lit (.int .i64 12)] []], .agg [.lit (.int .u16 48896), .lit (.int .u64 0), .slice [] []], .agg [.lit (.int .u16 190), .lit (.int .u64 8), .slice [.lit (.int .i64 6)] []]]

/-- 'bautalaw06.CoreSteps': WHATEVER THE INPUT: true; the input reads as it did. -/
def coreStepsSpec : ChangeSpec := { name := "coreSteps", fn := fun _ => fun
  | [d1, d2, d3] => { results := [.lit (.bool true)], args := [d1, d2, d3] }
  | _ => none }
def coreStepsRow : OpenClaim := { program := "ytkipfeljpngkeaadoor", sum := "ab72c0431db109130f5aa12566b7269b2affc3d02eddcb59fd8b7e9d430e79f1", func := "bauta/bautalaw06.CoreSteps", spec := "coreSteps", named := ["bauta/thumb.shapes", "bauta/thumb.fields"], apart := false, laid := [("bauta/thumb.fields", laid_bauta_thumb_fields), ("bauta/thumb.shapes", laid_bauta_thumb_shapes)] }
def CoreStepsSaid : Prop := coreStepsRow.holds Tryd.pinned (OpenSpec.ofChange coreStepsSpec)

/-- ITS FALSE NEIGHBOUR: 'it returns false'. Refute it at one input. -/
def coreStepsWrong : ChangeSpec := { name := "coreSteps", fn := fun _ => fun
  | [d1, d2, d3] => { results := [.lit (.bool false)], args := [d1, d2, d3] }
  | _ => none }
def CoreStepsWrongFalsely : Prop := coreStepsRow.holds Tryd.pinned (OpenSpec.ofChange coreStepsWrong)

/-- 'bautalaw06.CoreRuns': WHATEVER THE INPUT: true; the input reads as it did. -/
def coreRunsSpec : ChangeSpec := { name := "coreRuns", fn := fun _ => fun
  | [d1, d2, d3] => { results := [.lit (.bool true)], args := [d1, d2, d3] }
  | _ => none }
def coreRunsRow : OpenClaim := { program := "ytkipfeljpngkeaadoor", sum := "ab72c0431db109130f5aa12566b7269b2affc3d02eddcb59fd8b7e9d430e79f1", func := "bauta/bautalaw06.CoreRuns", spec := "coreRuns", named := ["bauta/thumb.shapes", "bauta/thumb.fields"], apart := false, laid := [("bauta/thumb.fields", laid_bauta_thumb_fields), ("bauta/thumb.shapes", laid_bauta_thumb_shapes)] }
def CoreRunsSaid : Prop := coreRunsRow.holds Tryd.pinned (OpenSpec.ofChange coreRunsSpec)

/-- ITS FALSE NEIGHBOUR: 'it returns false'. Refute it at one input. -/
def coreRunsWrong : ChangeSpec := { name := "coreRuns", fn := fun _ => fun
  | [d1, d2, d3] => { results := [.lit (.bool false)], args := [d1, d2, d3] }
  | _ => none }
def CoreRunsWrongFalsely : Prop := coreRunsRow.holds Tryd.pinned (OpenSpec.ofChange coreRunsWrong)

/-- 'bautalaw06.CoreHolds': WHATEVER THE INPUT: true; the input reads as it did. -/
def coreHoldsSpec : ChangeSpec := { name := "coreHolds", fn := fun _ => fun
  | [d1, d2, d3] => { results := [.lit (.bool true)], args := [d1, d2, d3] }
  | _ => none }
def coreHoldsRow : OpenClaim := { program := "ytkipfeljpngkeaadoor", sum := "ab72c0431db109130f5aa12566b7269b2affc3d02eddcb59fd8b7e9d430e79f1", func := "bauta/bautalaw06.CoreHolds", spec := "coreHolds", named := ["bauta/thumb.shapes", "bauta/thumb.fields"], apart := false, laid := [("bauta/thumb.fields", laid_bauta_thumb_fields), ("bauta/thumb.shapes", laid_bauta_thumb_shapes)] }
def CoreHoldsSaid : Prop := coreHoldsRow.holds Tryd.pinned (OpenSpec.ofChange coreHoldsSpec)

/-- ITS FALSE NEIGHBOUR: 'it returns false'. Refute it at one input. -/
def coreHoldsWrong : ChangeSpec := { name := "coreHolds", fn := fun _ => fun
  | [d1, d2, d3] => { results := [.lit (.bool false)], args := [d1, d2, d3] }
  | _ => none }
def CoreHoldsWrongFalsely : Prop := coreHoldsRow.holds Tryd.pinned (OpenSpec.ofChange coreHoldsWrong)

/-- 'bautalaw06.CoreOne': WHATEVER THE INPUT: true; the input reads as it did. -/
def coreOneSpec : ChangeSpec := { name := "coreOne", fn := fun _ => fun
  | [d1, d2] => { results := [.lit (.bool true)], args := [d1, d2] }
  | _ => none }
def coreOneRow : OpenClaim := { program := "ytkipfeljpngkeaadoor", sum := "ab72c0431db109130f5aa12566b7269b2affc3d02eddcb59fd8b7e9d430e79f1", func := "bauta/bautalaw06.CoreOne", spec := "coreOne", named := ["bauta/thumb.shapes", "bauta/thumb.fields"], apart := false, laid := [("bauta/thumb.fields", laid_bauta_thumb_fields), ("bauta/thumb.shapes", laid_bauta_thumb_shapes)] }
def CoreOneSaid : Prop := coreOneRow.holds Tryd.pinned (OpenSpec.ofChange coreOneSpec)

/-- ITS FALSE NEIGHBOUR: 'it returns false'. Refute it at one input. -/
def coreOneWrong : ChangeSpec := { name := "coreOne", fn := fun _ => fun
  | [d1, d2] => { results := [.lit (.bool false)], args := [d1, d2] }
  | _ => none }
def CoreOneWrongFalsely : Prop := coreOneRow.holds Tryd.pinned (OpenSpec.ofChange coreOneWrong)

/-- 'bautalaw06.CoreAdds': WHATEVER THE INPUT: true; the input reads as it did. -/
def coreAddsSpec : ChangeSpec := { name := "coreAdds", fn := fun _ => fun
  | [d1, d2] => { results := [.lit (.bool true)], args := [d1, d2] }
  | _ => none }
def coreAddsRow : OpenClaim := { program := "ytkipfeljpngkeaadoor", sum := "ab72c0431db109130f5aa12566b7269b2affc3d02eddcb59fd8b7e9d430e79f1", func := "bauta/bautalaw06.CoreAdds", spec := "coreAdds", named := ["bauta/thumb.shapes", "bauta/thumb.fields"], apart := false, laid := [("bauta/thumb.fields", laid_bauta_thumb_fields), ("bauta/thumb.shapes", laid_bauta_thumb_shapes)] }
def CoreAddsSaid : Prop := coreAddsRow.holds Tryd.pinned (OpenSpec.ofChange coreAddsSpec)

/-- ITS FALSE NEIGHBOUR: 'it returns false'. Refute it at one input. -/
def coreAddsWrong : ChangeSpec := { name := "coreAdds", fn := fun _ => fun
  | [d1, d2] => { results := [.lit (.bool false)], args := [d1, d2] }
  | _ => none }
def CoreAddsWrongFalsely : Prop := coreAddsRow.holds Tryd.pinned (OpenSpec.ofChange coreAddsWrong)

/- THE SECOND FORM. 'bulk': how many values and letters a reading holds, each counted each time it is reached (what is shared counts as often as it is met; a slice's spare places count too). A statement '..UptoSaid' is the law's where the arguments, and the package variables that the reading takes, are together of bulk at most 1048576: NARROWER than '..Said'. Prove '..Said' where nothing that the law and all that it calls make is longer than what came in: it says more and counts as full. Else prove '..UptoSaid'. A law counts once. -/
mutual
def uptoBulk {H : Type} : DataW H → Nat
  | .lit (.string bytes) => bytes.length + 1
  | .lit _ => 1
  | .nil => 1
  | .ptr d => uptoBulk d + 1
  | .slice elems spare => uptoBulkAll elems + uptoBulkAll spare + 1
  | .agg parts => uptoBulkAll parts + 1
  | .iface _ d => uptoBulk d + 1
  | .map entries => uptoBulkEntries entries + 1
  | .held _ => 1
def uptoBulkAll {H : Type} : List (DataW H) → Nat
  | [] => 0
  | d :: r => uptoBulk d + uptoBulkAll r
def uptoBulkEntries {H : Type} : List (Lit × DataW H) → Nat
  | [] => 0
  | x :: r => uptoBulkEntry x + uptoBulkEntries r
def uptoBulkEntry {H : Type} : Lit × DataW H → Nat
  | (.string bytes, d) => bytes.length + uptoBulk d + 1
  | (_, d) => uptoBulk d + 1
 end
def uptoSmall : (H : Type) → List (DataW H) → Bool := fun _ ds => decide (uptoBulkAll ds ≤ 1048576)
def OpenSpec.upto (s : _root_.Go.ChangeSpec) : _root_.Go.OpenSpec := { _root_.Go.OpenSpec.ofChange s with cond := some uptoSmall }

/-- 'bautalaw06.CoreSteps', WHERE WHAT IT READS IS OF BULK AT MOST 1048576: true; the input reads as it did. -/
def coreStepsUptoRow : OpenClaim := { program := "ytkipfeljpngkeaadoor", sum := "ab72c0431db109130f5aa12566b7269b2affc3d02eddcb59fd8b7e9d430e79f1", func := "bauta/bautalaw06.CoreSteps", spec := "coreSteps", named := ["bauta/thumb.shapes", "bauta/thumb.fields"], apart := false, laid := [("bauta/thumb.fields", laid_bauta_thumb_fields), ("bauta/thumb.shapes", laid_bauta_thumb_shapes)], narrowed := true }
def CoreStepsUptoSaid : Prop := coreStepsUptoRow.holds Tryd.pinned (OpenSpec.upto coreStepsSpec)

/-- 'bautalaw06.CoreRuns', WHERE WHAT IT READS IS OF BULK AT MOST 1048576: true; the input reads as it did. -/
def coreRunsUptoRow : OpenClaim := { program := "ytkipfeljpngkeaadoor", sum := "ab72c0431db109130f5aa12566b7269b2affc3d02eddcb59fd8b7e9d430e79f1", func := "bauta/bautalaw06.CoreRuns", spec := "coreRuns", named := ["bauta/thumb.shapes", "bauta/thumb.fields"], apart := false, laid := [("bauta/thumb.fields", laid_bauta_thumb_fields), ("bauta/thumb.shapes", laid_bauta_thumb_shapes)], narrowed := true }
def CoreRunsUptoSaid : Prop := coreRunsUptoRow.holds Tryd.pinned (OpenSpec.upto coreRunsSpec)

/-- 'bautalaw06.CoreHolds', WHERE WHAT IT READS IS OF BULK AT MOST 1048576: true; the input reads as it did. -/
def coreHoldsUptoRow : OpenClaim := { program := "ytkipfeljpngkeaadoor", sum := "ab72c0431db109130f5aa12566b7269b2affc3d02eddcb59fd8b7e9d430e79f1", func := "bauta/bautalaw06.CoreHolds", spec := "coreHolds", named := ["bauta/thumb.shapes", "bauta/thumb.fields"], apart := false, laid := [("bauta/thumb.fields", laid_bauta_thumb_fields), ("bauta/thumb.shapes", laid_bauta_thumb_shapes)], narrowed := true }
def CoreHoldsUptoSaid : Prop := coreHoldsUptoRow.holds Tryd.pinned (OpenSpec.upto coreHoldsSpec)

/-- 'bautalaw06.CoreOne', WHERE WHAT IT READS IS OF BULK AT MOST 1048576: true; the input reads as it did. -/
def coreOneUptoRow : OpenClaim := { program := "ytkipfeljpngkeaadoor", sum := "ab72c0431db109130f5aa12566b7269b2affc3d02eddcb59fd8b7e9d430e79f1", func := "bauta/bautalaw06.CoreOne", spec := "coreOne", named := ["bauta/thumb.shapes", "bauta/thumb.fields"], apart := false, laid := [("bauta/thumb.fields", laid_bauta_thumb_fields), ("bauta/thumb.shapes", laid_bauta_thumb_shapes)], narrowed := true }
def CoreOneUptoSaid : Prop := coreOneUptoRow.holds Tryd.pinned (OpenSpec.upto coreOneSpec)

/-- 'bautalaw06.CoreAdds', WHERE WHAT IT READS IS OF BULK AT MOST 1048576: true; the input reads as it did. -/
def coreAddsUptoRow : OpenClaim := { program := "ytkipfeljpngkeaadoor", sum := "ab72c0431db109130f5aa12566b7269b2affc3d02eddcb59fd8b7e9d430e79f1", func := "bauta/bautalaw06.CoreAdds", spec := "coreAdds", named := ["bauta/thumb.shapes", "bauta/thumb.fields"], apart := false, laid := [("bauta/thumb.fields", laid_bauta_thumb_fields), ("bauta/thumb.shapes", laid_bauta_thumb_shapes)], narrowed := true }
def CoreAddsUptoSaid : Prop := coreAddsUptoRow.holds Tryd.pinned (OpenSpec.upto coreAddsSpec)

end Rows
end Go.Proofs.YtkipfeljpngkeaaDoor
