/-
  NARROWER THAN 'FOR EVERY INPUT', by the rows' own cells (each row's printed sentence says how): LeakSteps: laid · LeakSets: laid · LeakParts: laid · LeakBus: laid · CoreOne: laid · CoreAdds: laid.
  DERIVED. THE GIVEN ROWS OF THIS SEAT. 6 by the template 'for every input the law returns true; each argument reads behind the call as it read before'; 0 by the template 'total and deterministic' (their statements: YtcigchpcffpemaaDoorTotals.lean).
  GIVEN WITH THE SEED: the statements are not yours to turn. If you find one false, say at which input.
  Laid BY PROGRAM, IN A SANDBOX (cutbox-rows.mjs): the forced cells as the released guide's own fill.sh prints them over the translation abced7b6eb4bf0c2… (all of the seat's roots in one cut). By AI agents, Wed Nov 11 2026. No macro, syntax, notation, axiom, sorry.
-/
import Derived.Test.YtcigchpcffpemaaDoorChecked
import GoSem.Claim
import GoSem.ClaimJoined
import GoSem.ClaimMapViews
import Derived.JoinedTies
import Derived.KernelRfl
namespace Go.Proofs.YtcigchpcffpemaaDoor
/- THE CELL 'sum', in the pinned program and in every row, IS THE sha256 OF THE DUMP (.gsa) THAT YtcigchpcffpemaaDoorProg.lean LOADS. Nothing in Lean hashes anything: it is a label: what it is worth is what the hold of that sum in a sandbox is worth. -/
noncomputable def Tryd.pinned : Pinned := { name := "ytcigchpcffpemaadoor", sum := "abced7b6eb4bf0c27f8f75251128a45586e589c1c064abe752abb30fe04b63d4", checked := Tryd.checked }
namespace Rows
def none {H : Type} : Left H := { results := [], args := [] }

/- WHAT THE LISTED PACKAGE-LEVEL VARIABLES READ AS WHEN THE CALL BEGINS. Each datum BY PROGRAM (the guide's laid-datum.mjs) off the statement by which the dump's own 'gosem.cut.vars' lays the variable. In a bare row this is a premise. The card (YtcigchpcffpemaaDoorCards.lean) ties it to the program's text. -/
def laid_bauta_thumb_fields {H : Type} : DataW H := .agg [.agg [.lit (.int .i64 0), .lit (.int .u64 0), .lit (.int .u64 3), .lit (.int .i64 0), .lit (.int .i64 7)], .agg [.lit (.int .i64 0), .lit (.int .u64 8), .lit (.int .u64 3), .lit (.int .i64 0), .lit (.int .i64 7)], .agg [.lit (.int .i64 0), .lit (.int .u64 8), .lit (.int .u64 4), .lit (.int .i64 0), .lit (.int .i64 13)], .agg [.lit (.int .i64 1), .lit (.int .u64 3), .lit (.int .u64 3), .lit (.int .i64 0), .lit (.int .i64 7)], .agg [.lit (.int .i64 2), .lit (.int .u64 3), .lit (.int .u64 3), .lit (.int .i64 0), .lit (.int .i64 7)], .agg [.lit (.int .i64 2), .lit (.int .u64 6), .lit (.int .u64 3), .lit (.int .i64 0), .lit (.int .i64 7)], .agg [.lit (.int .i64 3), .lit (.int .u64 0), .lit (.int .u64 8), .lit (.int .i64 0), .lit (.int .i64 255)], .agg [.lit (.int .i64 3), .lit (.int .u64 6), .lit (.int .u64 5), .lit (.int .i64 0), .lit (.int .i64 31)], .agg [.lit (.int .i64 3), .lit (.int .u64 6), .lit (.int .u64 5), .lit (.int .i64 1), .lit (.int .i64 32)], .agg [.lit (.int .i64 3), .lit (.int .u64 6), .lit (.int .u64 3), .lit (.int .i64 0), .lit (.int .i64 7)], .agg [.lit (.int .i64 3), .lit (.int .u64 6), .lit (.int .u64 4), .lit (.int .i64 0), .lit (.int .i64 15)], .agg [.lit (.int .i64 3), .lit (.int .u64 0), .lit (.int .u64 11), .lit (.int .i64 (-1024)), .lit (.int .i64 1023)], .agg [.lit (.int .i64 3), .lit (.int .u64 0), .lit (.int .u64 8), .lit (.int .i64 (-128)), .lit (.int .i64 127)]]
def laid_bauta_thumb_shapes {H : Type} : DataW H := .agg [.agg [.lit (.int .u16 4), .lit (.int .u64 11), .slice [.lit (.int .i64 1), .lit (.int .i64 6)] []], .agg [.lit (.int .u16 5), .lit (.int .u64 11), .slice [.lit (.int .i64 1), .lit (.int .i64 6)] []], .agg [.lit (.int .u16 6), .lit (.int .u64 11), .slice [.lit (.int .i64 1), .lit (.int .i64 6)] []], .agg [.lit (.int .u16 7), .lit (.int .u64 11), .slice [.lit (.int .i64 1), .lit (.int .i64 6)] []], .agg [.lit (.int .u16 0), .lit (.int .u64 11), .slice [.lit (.int .i64 7), .lit (.int .i64 4), .lit (.int .i64 0)] []], .agg [.lit (.int .u16 1), .lit (.int .u64 11), .slice [.lit (.int .i64 8), .lit (.int .i64 4), .lit (.int .i64 0)] []], .agg [.lit (.int .u16 2), .lit (.int .u64 11), .slice [.lit (.int .i64 8), .lit (.int .i64 4), .lit (.int .i64 0)] []], .agg [.lit (.int .u16 12), .lit (.int .u64 9), .slice [.lit (.int .i64 5), .lit (.int .i64 3), .lit (.int .i64 0)] []], .agg [.lit (.int .u16 13), .lit (.int .u64 9), .slice [.lit (.int .i64 5), .lit (.int .i64 3), .lit (.int .i64 0)] []], .agg [.lit (.int .u16 14), .lit (.int .u64 9), .slice [.lit (.int .i64 9), .lit (.int .i64 3), .lit (.int .i64 0)] []], .agg [.lit (.int .u16 15), .lit (.int .u64 9), .slice [.lit (.int .i64 9), .lit (.int .i64 3), .lit (.int .i64 0)] []], .agg [.lit (.int .u16 16), .lit (.int .u64 10), .slice [.lit (.int .i64 10), .lit (.int .i64 4), .lit (.int .i64 0)] []], .agg [.lit (.int .u16 13), .lit (.int .u64 11), .slice [.lit (.int .i64 7), .lit (.int .i64 3), .lit (.int .i64 0)] []], .agg [.lit (.int .u16 12), .lit (.int .u64 11), .slice [.lit (.int .i64 7), .lit (.int .i64 3), .lit (.int .i64 0)] []], .agg [.lit (.int .u16 44), .lit (.int .u64 9), .slice [.lit (.int .i64 5), .lit (.int .i64 3), .lit (.int .i64 0)] []], .agg [.lit (.int .u16 40), .lit (.int .u64 9), .slice [.lit (.int .i64 5), .lit (.int .i64 3), .lit (.int .i64 0)] []], .agg [.lit (.int .u16 9), .lit (.int .u64 11), .slice [.lit (.int .i64 1), .lit (.int .i64 6)] []], .agg [.lit (.int .u16 28), .lit (.int .u64 11), .slice [.lit (.int .i64 11)] []], .agg [.lit (.int .u16 13), .lit (.int .u64 12), .slice [.lit (.int .i64 2), .lit (.int .i64 12)] []], .agg [.lit (.int .u16 48896), .lit (.int .u64 0), .slice [] []], .agg [.lit (.int .u16 190), .lit (.int .u64 8), .slice [.lit (.int .i64 6)] []]]

/-- 'bautalaw07.LeakSteps': WHATEVER THE INPUT: true; the input reads as it did. -/
def leakStepsSpec : ChangeSpec := { name := "leakSteps", fn := fun _ => fun
  | [d1, d2, d3] => { results := [.lit (.bool true)], args := [d1, d2, d3] }
  | _ => none }
def leakStepsRow : OpenClaim := { program := "ytcigchpcffpemaadoor", sum := "abced7b6eb4bf0c27f8f75251128a45586e589c1c064abe752abb30fe04b63d4", func := "bauta/bautalaw07.LeakSteps", spec := "leakSteps", named := ["bauta/thumb.shapes", "bauta/thumb.fields"], apart := false, laid := [("bauta/thumb.fields", laid_bauta_thumb_fields), ("bauta/thumb.shapes", laid_bauta_thumb_shapes)] }
def LeakStepsSaid : Prop := leakStepsRow.holds Tryd.pinned (OpenSpec.ofChange leakStepsSpec)

/-- ITS FALSE NEIGHBOUR: 'it returns false'. Refute it at one input. -/
def leakStepsWrong : ChangeSpec := { name := "leakSteps", fn := fun _ => fun
  | [d1, d2, d3] => { results := [.lit (.bool false)], args := [d1, d2, d3] }
  | _ => none }
def LeakStepsWrongFalsely : Prop := leakStepsRow.holds Tryd.pinned (OpenSpec.ofChange leakStepsWrong)

/-- 'bautalaw07.LeakSets': WHATEVER THE INPUT: true; the input reads as it did. -/
def leakSetsSpec : ChangeSpec := { name := "leakSets", fn := fun _ => fun
  | [d1, d2, d3] => { results := [.lit (.bool true)], args := [d1, d2, d3] }
  | _ => none }
def leakSetsRow : OpenClaim := { program := "ytcigchpcffpemaadoor", sum := "abced7b6eb4bf0c27f8f75251128a45586e589c1c064abe752abb30fe04b63d4", func := "bauta/bautalaw07.LeakSets", spec := "leakSets", named := ["bauta/thumb.shapes", "bauta/thumb.fields"], apart := false, laid := [("bauta/thumb.fields", laid_bauta_thumb_fields), ("bauta/thumb.shapes", laid_bauta_thumb_shapes)] }
def LeakSetsSaid : Prop := leakSetsRow.holds Tryd.pinned (OpenSpec.ofChange leakSetsSpec)

/-- ITS FALSE NEIGHBOUR: 'it returns false'. Refute it at one input. -/
def leakSetsWrong : ChangeSpec := { name := "leakSets", fn := fun _ => fun
  | [d1, d2, d3] => { results := [.lit (.bool false)], args := [d1, d2, d3] }
  | _ => none }
def LeakSetsWrongFalsely : Prop := leakSetsRow.holds Tryd.pinned (OpenSpec.ofChange leakSetsWrong)

/-- 'bautalaw07.LeakParts': WHATEVER THE INPUT: true; the input reads as it did. -/
def leakPartsSpec : ChangeSpec := { name := "leakParts", fn := fun _ => fun
  | [d1, d2] => { results := [.lit (.bool true)], args := [d1, d2] }
  | _ => none }
def leakPartsRow : OpenClaim := { program := "ytcigchpcffpemaadoor", sum := "abced7b6eb4bf0c27f8f75251128a45586e589c1c064abe752abb30fe04b63d4", func := "bauta/bautalaw07.LeakParts", spec := "leakParts", named := ["bauta/thumb.shapes", "bauta/thumb.fields"], apart := false, laid := [("bauta/thumb.fields", laid_bauta_thumb_fields), ("bauta/thumb.shapes", laid_bauta_thumb_shapes)] }
def LeakPartsSaid : Prop := leakPartsRow.holds Tryd.pinned (OpenSpec.ofChange leakPartsSpec)

/-- ITS FALSE NEIGHBOUR: 'it returns false'. Refute it at one input. -/
def leakPartsWrong : ChangeSpec := { name := "leakParts", fn := fun _ => fun
  | [d1, d2] => { results := [.lit (.bool false)], args := [d1, d2] }
  | _ => none }
def LeakPartsWrongFalsely : Prop := leakPartsRow.holds Tryd.pinned (OpenSpec.ofChange leakPartsWrong)

/-- 'bautalaw07.LeakBus': WHATEVER THE INPUT: true; the input reads as it did. -/
def leakBusSpec : ChangeSpec := { name := "leakBus", fn := fun _ => fun
  | [d] => { results := [.lit (.bool true)], args := [d] }
  | _ => none }
def leakBusRow : OpenClaim := { program := "ytcigchpcffpemaadoor", sum := "abced7b6eb4bf0c27f8f75251128a45586e589c1c064abe752abb30fe04b63d4", func := "bauta/bautalaw07.LeakBus", spec := "leakBus", named := ["bauta/thumb.shapes", "bauta/thumb.fields"], apart := false, laid := [("bauta/thumb.fields", laid_bauta_thumb_fields), ("bauta/thumb.shapes", laid_bauta_thumb_shapes)] }
def LeakBusSaid : Prop := leakBusRow.holds Tryd.pinned (OpenSpec.ofChange leakBusSpec)

/-- ITS FALSE NEIGHBOUR: 'it returns false'. Refute it at one input. -/
def leakBusWrong : ChangeSpec := { name := "leakBus", fn := fun _ => fun
  | [d] => { results := [.lit (.bool false)], args := [d] }
  | _ => none }
def LeakBusWrongFalsely : Prop := leakBusRow.holds Tryd.pinned (OpenSpec.ofChange leakBusWrong)

/-- 'bautalaw06.CoreOne': WHATEVER THE INPUT: true; the input reads as it did. -/
def coreOneSpec : ChangeSpec := { name := "coreOne", fn := fun _ => fun
  | [d1, d2] => { results := [.lit (.bool true)], args := [d1, d2] }
  | _ => none }
def coreOneRow : OpenClaim := { program := "ytcigchpcffpemaadoor", sum := "abced7b6eb4bf0c27f8f75251128a45586e589c1c064abe752abb30fe04b63d4", func := "bauta/bautalaw06.CoreOne", spec := "coreOne", named := ["bauta/thumb.shapes", "bauta/thumb.fields"], apart := false, laid := [("bauta/thumb.fields", laid_bauta_thumb_fields), ("bauta/thumb.shapes", laid_bauta_thumb_shapes)] }
def CoreOneSaid : Prop := coreOneRow.holds Tryd.pinned (OpenSpec.ofChange coreOneSpec)

/-- ITS FALSE NEIGHBOUR: 'it returns false'. Refute it at one input. -/
def coreOneWrong : ChangeSpec := { name := "coreOne", fn := fun _ => fun
  | [d1, d2] => { results := [.lit (.bool false)], args := [d1, d2] }
  | _ => none }
def CoreOneWrongFalsely : Prop := coreOneRow.holds Tryd.pinned (OpenSpec.ofChange coreOneWrong)

/-- 'bautalaw06.CoreAdds': WHATEVER THE INPUT: true; the input reads as it did. -/
def coreAddsSpec : ChangeSpec := { name := "coreAdds", fn := fun _ => fun
  | [d1, d2] => { results := [.lit (.bool true)], args := [d1, d2] }
  | _ => none }
def coreAddsRow : OpenClaim := { program := "ytcigchpcffpemaadoor", sum := "abced7b6eb4bf0c27f8f75251128a45586e589c1c064abe752abb30fe04b63d4", func := "bauta/bautalaw06.CoreAdds", spec := "coreAdds", named := ["bauta/thumb.shapes", "bauta/thumb.fields"], apart := false, laid := [("bauta/thumb.fields", laid_bauta_thumb_fields), ("bauta/thumb.shapes", laid_bauta_thumb_shapes)] }
def CoreAddsSaid : Prop := coreAddsRow.holds Tryd.pinned (OpenSpec.ofChange coreAddsSpec)

/-- ITS FALSE NEIGHBOUR: 'it returns false'. Refute it at one input. -/
def coreAddsWrong : ChangeSpec := { name := "coreAdds", fn := fun _ => fun
  | [d1, d2] => { results := [.lit (.bool false)], args := [d1, d2] }
  | _ => none }
def CoreAddsWrongFalsely : Prop := coreAddsRow.holds Tryd.pinned (OpenSpec.ofChange coreAddsWrong)

/- THE SECOND FORM. 'bulk': how many values and letters a reading holds, each counted each time it is reached (what is shared counts as often as it is met; a slice's spare places count too). A statement '..UptoSaid' is the law's where the arguments, and the package variables that the reading takes, are together of bulk at most 1048576: NARROWER than '..Said'. Prove '..Said' where nothing that the law and all that it calls make is longer than what came in: it says more and counts as full. Else prove '..UptoSaid'. A law counts once. -/
mutual
def uptoBulk {H : Type} : DataW H → Nat
  | .lit (.string bytes) => bytes.length + 1
  | .lit _ => 1
  | .nil => 1
  | .ptr d => uptoBulk d + 1
  | .slice elems spare => uptoBulkAll elems + uptoBulkAll spare + 1
  | .agg parts => uptoBulkAll parts + 1
  | .iface _ d => uptoBulk d + 1
  | .map entries => uptoBulkEntries entries + 1
  | .held _ => 1
def uptoBulkAll {H : Type} : List (DataW H) → Nat
  | [] => 0
  | d :: r => uptoBulk d + uptoBulkAll r
def uptoBulkEntries {H : Type} : List (Lit × DataW H) → Nat
  | [] => 0
  | x :: r => uptoBulkEntry x + uptoBulkEntries r
def uptoBulkEntry {H : Type} : Lit × DataW H → Nat
  | (.string bytes, d) => bytes.length + uptoBulk d + 1
  | (_, d) => uptoBulk d + 1
 end
def uptoSmall : (H : Type) → List (DataW H) → Bool := fun _ ds => decide (uptoBulkAll ds ≤ 1048576)
def OpenSpec.upto (s : _root_.Go.ChangeSpec) : _root_.Go.OpenSpec := { _root_.Go.OpenSpec.ofChange s with cond := some uptoSmall }

/-- 'bautalaw07.LeakSteps', WHERE WHAT IT READS IS OF BULK AT MOST 1048576: true; the input reads as it did. -/
def leakStepsUptoRow : OpenClaim := { program := "ytcigchpcffpemaadoor", sum := "abced7b6eb4bf0c27f8f75251128a45586e589c1c064abe752abb30fe04b63d4", func := "bauta/bautalaw07.LeakSteps", spec := "leakSteps", named := ["bauta/thumb.shapes", "bauta/thumb.fields"], apart := false, laid := [("bauta/thumb.fields", laid_bauta_thumb_fields), ("bauta/thumb.shapes", laid_bauta_thumb_shapes)], narrowed := true }
def LeakStepsUptoSaid : Prop := leakStepsUptoRow.holds Tryd.pinned (OpenSpec.upto leakStepsSpec)

/-- 'bautalaw07.LeakSets', WHERE WHAT IT READS IS OF BULK AT MOST 1048576: true; the input reads as it did. -/
def leakSetsUptoRow : OpenClaim := { program := "ytcigchpcffpemaadoor", sum := "abced7b6eb4bf0c27f8f75251128a45586e589c1c064abe752abb30fe04b63d4", func := "bauta/bautalaw07.LeakSets", spec := "leakSets", named := ["bauta/thumb.shapes", "bauta/thumb.fields"], apart := false, laid := [("bauta/thumb.fields", laid_bauta_thumb_fields), ("bauta/thumb.shapes", laid_bauta_thumb_shapes)], narrowed := true }
def LeakSetsUptoSaid : Prop := leakSetsUptoRow.holds Tryd.pinned (OpenSpec.upto leakSetsSpec)

/-- 'bautalaw07.LeakParts', WHERE WHAT IT READS IS OF BULK AT MOST 1048576: true; the input reads as it did. -/
def leakPartsUptoRow : OpenClaim := { program := "ytcigchpcffpemaadoor", sum := "abced7b6eb4bf0c27f8f75251128a45586e589c1c064abe752abb30fe04b63d4", func := "bauta/bautalaw07.LeakParts", spec := "leakParts", named := ["bauta/thumb.shapes", "bauta/thumb.fields"], apart := false, laid := [("bauta/thumb.fields", laid_bauta_thumb_fields), ("bauta/thumb.shapes", laid_bauta_thumb_shapes)], narrowed := true }
def LeakPartsUptoSaid : Prop := leakPartsUptoRow.holds Tryd.pinned (OpenSpec.upto leakPartsSpec)

/-- 'bautalaw07.LeakBus', WHERE WHAT IT READS IS OF BULK AT MOST 1048576: true; the input reads as it did. -/
def leakBusUptoRow : OpenClaim := { program := "ytcigchpcffpemaadoor", sum := "abced7b6eb4bf0c27f8f75251128a45586e589c1c064abe752abb30fe04b63d4", func := "bauta/bautalaw07.LeakBus", spec := "leakBus", named := ["bauta/thumb.shapes", "bauta/thumb.fields"], apart := false, laid := [("bauta/thumb.fields", laid_bauta_thumb_fields), ("bauta/thumb.shapes", laid_bauta_thumb_shapes)], narrowed := true }
def LeakBusUptoSaid : Prop := leakBusUptoRow.holds Tryd.pinned (OpenSpec.upto leakBusSpec)

/-- 'bautalaw06.CoreOne', WHERE WHAT IT READS IS OF BULK AT MOST 1048576: true; the input reads as it did. -/
def coreOneUptoRow : OpenClaim := { program := "ytcigchpcffpemaadoor", sum := "abced7b6eb4bf0c27f8f75251128a45586e589c1c064abe752abb30fe04b63d4", func := "bauta/bautalaw06.CoreOne", spec := "coreOne", named := ["bauta/thumb.shapes", "bauta/thumb.fields"], apart := false, laid := [("bauta/thumb.fields", laid_bauta_thumb_fields), ("bauta/thumb.shapes", laid_bauta_thumb_shapes)], narrowed := true }
def CoreOneUptoSaid : Prop := coreOneUptoRow.holds Tryd.pinned (OpenSpec.upto coreOneSpec)

/-- 'bautalaw06.CoreAdds', WHERE WHAT IT READS IS OF BULK AT MOST 1048576: true; the input reads as it did. -/
def coreAddsUptoRow : OpenClaim := { program := "ytcigchpcffpemaadoor", sum := "abced7b6eb4bf0c27f8f75251128a45586e589c1c064abe752abb30fe04b63d4", func := "bauta/bautalaw06.CoreAdds", spec := "coreAdds", named := ["bauta/thumb.shapes", "bauta/thumb.fields"], apart := false, laid := [("bauta/thumb.fields", laid_bauta_thumb_fields), ("bauta/thumb.shapes", laid_bauta_thumb_shapes)], narrowed := true }
def CoreAddsUptoSaid : Prop := coreAddsUptoRow.holds Tryd.pinned (OpenSpec.upto coreAddsSpec)

end Rows
end Go.Proofs.YtcigchpcffpemaaDoor
