/-
  No cell of these rows narrows 'for every input' (looked for: loops, veiled, ifaces, maps, wideKeys, modest, calm, conditions, laid).
  DERIVED. THE GIVEN ROWS OF THIS SEAT. 5 by the template 'for every input the law returns true; each argument reads behind the call as it read before'; 0 by the template 'total and deterministic' (their statements: YtldfnjjgacieoaaTotals.lean).
  GIVEN WITH THE SEED: the statements are not yours to turn. If you find one false, say at which input.
  Laid BY PROGRAM, IN A SANDBOX (cutbox-rows.mjs): the forced cells as the released guide's own fill.sh prints them over the translation ae01c166087d4d00… (all of the seat's roots in one cut). By AI agents, Wed Nov 11 2026. No macro, syntax, notation, axiom, sorry.
-/
import Derived.Test.YtldfnjjgacieoaaChecked
import GoSem.Claim
import GoSem.ClaimJoined
import GoSem.ClaimMapViews
import Derived.JoinedTies
import Derived.KernelRfl
namespace Go.Proofs.Ytldfnjjgacieoaa
/- THE CELL 'sum', in the pinned program and in every row, IS THE sha256 OF THE DUMP (.gsa) THAT YtldfnjjgacieoaaProg.lean LOADS. Nothing in Lean hashes anything: it is a label: what it is worth is what the hold of that sum in a sandbox is worth. -/
noncomputable def Try.pinned : Pinned := { name := "ytldfnjjgacieoaa", sum := "ae01c166087d4d00264a72c38d70a756523e4a34b146c8bf68aaa65e2488de9c", checked := Try.checked }
namespace Rows
def none {H : Type} : Left H := { results := [], args := [] }

/-- 'bautalaw05.MemActs': WHATEVER THE INPUT: true; the input reads as it did. -/
def memActsSpec : ChangeSpec := { name := "memActs", fn := fun _ => fun
  | [d1, d2, d3] => { results := [.lit (.bool true)], args := [d1, d2, d3] }
  | _ => none }
def memActsRow : OpenClaim := { program := "ytldfnjjgacieoaa", sum := "ae01c166087d4d00264a72c38d70a756523e4a34b146c8bf68aaa65e2488de9c", func := "bauta/bautalaw05.MemActs", spec := "memActs", apart := false }
def MemActsSaid : Prop := memActsRow.holds Try.pinned (OpenSpec.ofChange memActsSpec)

/-- ITS FALSE NEIGHBOUR: 'it returns false'. Refute it at one input. -/
def memActsWrong : ChangeSpec := { name := "memActs", fn := fun _ => fun
  | [d1, d2, d3] => { results := [.lit (.bool false)], args := [d1, d2, d3] }
  | _ => none }
def MemActsWrongFalsely : Prop := memActsRow.holds Try.pinned (OpenSpec.ofChange memActsWrong)

/-- 'bautalaw05.MemWords': WHATEVER THE INPUT: true; the input reads as it did. -/
def memWordsSpec : ChangeSpec := { name := "memWords", fn := fun _ => fun
  | [d1, d2, d3] => { results := [.lit (.bool true)], args := [d1, d2, d3] }
  | _ => none }
def memWordsRow : OpenClaim := { program := "ytldfnjjgacieoaa", sum := "ae01c166087d4d00264a72c38d70a756523e4a34b146c8bf68aaa65e2488de9c", func := "bauta/bautalaw05.MemWords", spec := "memWords", apart := false }
def MemWordsSaid : Prop := memWordsRow.holds Try.pinned (OpenSpec.ofChange memWordsSpec)

/-- ITS FALSE NEIGHBOUR: 'it returns false'. Refute it at one input. -/
def memWordsWrong : ChangeSpec := { name := "memWords", fn := fun _ => fun
  | [d1, d2, d3] => { results := [.lit (.bool false)], args := [d1, d2, d3] }
  | _ => none }
def MemWordsWrongFalsely : Prop := memWordsRow.holds Try.pinned (OpenSpec.ofChange memWordsWrong)

/-- 'bautalaw05.MemTape': WHATEVER THE INPUT: true; the input reads as it did. -/
def memTapeSpec : ChangeSpec := { name := "memTape", fn := fun _ => fun
  | [d1, d2] => { results := [.lit (.bool true)], args := [d1, d2] }
  | _ => none }
def memTapeRow : OpenClaim := { program := "ytldfnjjgacieoaa", sum := "ae01c166087d4d00264a72c38d70a756523e4a34b146c8bf68aaa65e2488de9c", func := "bauta/bautalaw05.MemTape", spec := "memTape", apart := false }
def MemTapeSaid : Prop := memTapeRow.holds Try.pinned (OpenSpec.ofChange memTapeSpec)

/-- ITS FALSE NEIGHBOUR: 'it returns false'. Refute it at one input. -/
def memTapeWrong : ChangeSpec := { name := "memTape", fn := fun _ => fun
  | [d1, d2] => { results := [.lit (.bool false)], args := [d1, d2] }
  | _ => none }
def MemTapeWrongFalsely : Prop := memTapeRow.holds Try.pinned (OpenSpec.ofChange memTapeWrong)

/-- 'bautalaw05.MemOwn': WHATEVER THE INPUT: true; the input reads as it did. -/
def memOwnSpec : ChangeSpec := { name := "memOwn", fn := fun _ => fun
  | [d1, d2, d3] => { results := [.lit (.bool true)], args := [d1, d2, d3] }
  | _ => none }
def memOwnRow : OpenClaim := { program := "ytldfnjjgacieoaa", sum := "ae01c166087d4d00264a72c38d70a756523e4a34b146c8bf68aaa65e2488de9c", func := "bauta/bautalaw05.MemOwn", spec := "memOwn", apart := false }
def MemOwnSaid : Prop := memOwnRow.holds Try.pinned (OpenSpec.ofChange memOwnSpec)

/-- ITS FALSE NEIGHBOUR: 'it returns false'. Refute it at one input. -/
def memOwnWrong : ChangeSpec := { name := "memOwn", fn := fun _ => fun
  | [d1, d2, d3] => { results := [.lit (.bool false)], args := [d1, d2, d3] }
  | _ => none }
def MemOwnWrongFalsely : Prop := memOwnRow.holds Try.pinned (OpenSpec.ofChange memOwnWrong)

/-- 'bautalaw05.MemFlash': WHATEVER THE INPUT: true; the input reads as it did. -/
def memFlashSpec : ChangeSpec := { name := "memFlash", fn := fun _ => fun
  | [d1, d2] => { results := [.lit (.bool true)], args := [d1, d2] }
  | _ => none }
def memFlashRow : OpenClaim := { program := "ytldfnjjgacieoaa", sum := "ae01c166087d4d00264a72c38d70a756523e4a34b146c8bf68aaa65e2488de9c", func := "bauta/bautalaw05.MemFlash", spec := "memFlash", apart := false }
def MemFlashSaid : Prop := memFlashRow.holds Try.pinned (OpenSpec.ofChange memFlashSpec)

/-- ITS FALSE NEIGHBOUR: 'it returns false'. Refute it at one input. -/
def memFlashWrong : ChangeSpec := { name := "memFlash", fn := fun _ => fun
  | [d1, d2] => { results := [.lit (.bool false)], args := [d1, d2] }
  | _ => none }
def MemFlashWrongFalsely : Prop := memFlashRow.holds Try.pinned (OpenSpec.ofChange memFlashWrong)

/- THE SECOND FORM. 'bulk': how many values and letters a reading holds, each counted each time it is reached (what is shared counts as often as it is met; a slice's spare places count too). A statement '..UptoSaid' is the law's where the arguments, and the package variables that the reading takes, are together of bulk at most 1048576: NARROWER than '..Said'. Prove '..Said' where nothing that the law and all that it calls make is longer than what came in: it says more and counts as full. Else prove '..UptoSaid'. A law counts once. -/
mutual
def uptoBulk {H : Type} : DataW H → Nat
  | .lit (.string bytes) => bytes.length + 1
  | .lit _ => 1
  | .nil => 1
  | .ptr d => uptoBulk d + 1
  | .slice elems spare => uptoBulkAll elems + uptoBulkAll spare + 1
  | .agg parts => uptoBulkAll parts + 1
  | .iface _ d => uptoBulk d + 1
  | .map entries => uptoBulkEntries entries + 1
  | .held _ => 1
def uptoBulkAll {H : Type} : List (DataW H) → Nat
  | [] => 0
  | d :: r => uptoBulk d + uptoBulkAll r
def uptoBulkEntries {H : Type} : List (Lit × DataW H) → Nat
  | [] => 0
  | x :: r => uptoBulkEntry x + uptoBulkEntries r
def uptoBulkEntry {H : Type} : Lit × DataW H → Nat
  | (.string bytes, d) => bytes.length + uptoBulk d + 1
  | (_, d) => uptoBulk d + 1
 end
def uptoSmall : (H : Type) → List (DataW H) → Bool := fun _ ds => decide (uptoBulkAll ds ≤ 1048576)
def OpenSpec.upto (s : _root_.Go.ChangeSpec) : _root_.Go.OpenSpec := { _root_.Go.OpenSpec.ofChange s with cond := some uptoSmall }

/-- 'bautalaw05.MemActs', WHERE WHAT IT READS IS OF BULK AT MOST 1048576: true; the input reads as it did. -/
def memActsUptoRow : OpenClaim := { program := "ytldfnjjgacieoaa", sum := "ae01c166087d4d00264a72c38d70a756523e4a34b146c8bf68aaa65e2488de9c", func := "bauta/bautalaw05.MemActs", spec := "memActs", apart := false, narrowed := true }
def MemActsUptoSaid : Prop := memActsUptoRow.holds Try.pinned (OpenSpec.upto memActsSpec)

/-- 'bautalaw05.MemWords', WHERE WHAT IT READS IS OF BULK AT MOST 1048576: true; the input reads as it did. -/
def memWordsUptoRow : OpenClaim := { program := "ytldfnjjgacieoaa", sum := "ae01c166087d4d00264a72c38d70a756523e4a34b146c8bf68aaa65e2488de9c", func := "bauta/bautalaw05.MemWords", spec := "memWords", apart := false, narrowed := true }
def MemWordsUptoSaid : Prop := memWordsUptoRow.holds Try.pinned (OpenSpec.upto memWordsSpec)

/-- 'bautalaw05.MemTape', WHERE WHAT IT READS IS OF BULK AT MOST 1048576: true; the input reads as it did. -/
def memTapeUptoRow : OpenClaim := { program := "ytldfnjjgacieoaa", sum := "ae01c166087d4d00264a72c38d70a756523e4a34b146c8bf68aaa65e2488de9c", func := "bauta/bautalaw05.MemTape", spec := "memTape", apart := false, narrowed := true }
def MemTapeUptoSaid : Prop := memTapeUptoRow.holds Try.pinned (OpenSpec.upto memTapeSpec)

/-- 'bautalaw05.MemOwn', WHERE WHAT IT READS IS OF BULK AT MOST 1048576: true; the input reads as it did. -/
def memOwnUptoRow : OpenClaim := { program := "ytldfnjjgacieoaa", sum := "ae01c166087d4d00264a72c38d70a756523e4a34b146c8bf68aaa65e2488de9c", func := "bauta/bautalaw05.MemOwn", spec := "memOwn", apart := false, narrowed := true }
def MemOwnUptoSaid : Prop := memOwnUptoRow.holds Try.pinned (OpenSpec.upto memOwnSpec)

/-- 'bautalaw05.MemFlash', WHERE WHAT IT READS IS OF BULK AT MOST 1048576: true; the input reads as it did. -/
def memFlashUptoRow : OpenClaim := { program := "ytldfnjjgacieoaa", sum := "ae01c166087d4d00264a72c38d70a756523e4a34b146c8bf68aaa65e2488de9c", func := "bauta/bautalaw05.MemFlash", spec := "memFlash", apart := false, narrowed := true }
def MemFlashUptoSaid : Prop := memFlashUptoRow.holds Try.pinned (OpenSpec.upto memFlashSpec)

end Rows
end Go.Proofs.Ytldfnjjgacieoaa
