/- DERIVED. TxHv in one text. By an AI agent. -/
import Derived.Test.YtnngnfajmncjpaaGreatDoorZ10
import Derived.Test.YtnngnfajmncjpaaGreatDoorZ12
import Derived.Test.YtnngnfajmncjpaaGreatDoorZ23
import Derived.BigQuiet
/- DERIVED. The contract of the reference's Halves over equal lists. By an AI agent. -/
namespace Go.Proofs.YtnngnfajmncjpaaGreatDoor.Tx
open Go.ChangeShapes Go.WideShapes Go.ChangeAt Go.RowKit Args
set_option linter.unusedVariables false
def intOf2 : Value → Int
  | .int _ z => z
  | _ => 0
theorem below_drewN {B : Nat} {w w' : World} (h : Below B w w') (n : Nat) : Below B w (w'.drewN n) := ⟨h.os, h.tape, h.output, h.size, h.block⟩
set_option maxHeartbeats 2000000 in
theorem halvesEq (A B : Option Addr) (c d : Nat) (zs : List Nat) (w : World) (hA : Lies w A (zs.map fun z : Nat => Value.int .u16 (z : Int))) (hB : Lies w B (zs.map fun z : Nat => Value.int .u16 (z : Int))) (hl : zs.length ≤ 140737488351232) :
    Calls Tryz.prog 7 #[.slice A zs.length c, .slice B zs.length d] w fun e w' => e = .returned (.bool true) ∧ Below w.heap.size w w' := by
  have HA := Lib.hid hA; have HB := Lib.hid hB
  clear hA hB
  go_enter Tryz.func7, Tryz.ntmps7
  go_wp2_with fail
  go_loopw [5] (fun vi wr => ∃ k : Nat, k ≤ zs.length ∧ vi = .int .i64 k ∧ Hid (Below w.heap.size w wr)) (fun vi _ => zs.length - (intOf2 vi).toNat)
  case atStart => exact ⟨0, by omega, rfl, Lib.hid (Below.refl _ _)⟩
  case round =>
    obtain ⟨k, hk, rfl, HH⟩ := hrel
    by_cases hlt : k < zs.length
    · have f1 : (zs.map fun z : Nat => Value.int .u16 (z : Int))[k]? = some (.int .u16 ((zs[k]'hlt : Nat) : Int)) := by simp [List.getElem?_eq_getElem hlt]
      generalize zs[k]'hlt = z at f1
      obtain ⟨b, o, rfl, _, hc⟩ := (HA.out.below HH.out).at_ f1
      obtain ⟨b', o', rfl, _, hc'⟩ := (HB.out.below HH.out).at_ f1
      have e1 := hc _ _ f1
      have e2 := hc' _ _ f1
      clear hc hc' f1
      go_wp2_with fail
      go_quiet (fail)
      go_wp2_with fail
      go_roundw
      case rel => exact ⟨k + 1, by omega, by go_num, Lib.hid (below_drewN HH.out nq)⟩
      case measure => simp [intOf2]; omega
    · go_wp2_with fail
      go_ret
      exact ⟨rfl, HH.out⟩
end Go.Proofs.YtnngnfajmncjpaaGreatDoor.Tx
