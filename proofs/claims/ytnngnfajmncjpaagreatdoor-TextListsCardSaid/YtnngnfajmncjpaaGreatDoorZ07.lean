/- DERIVED. TxPl in one text. By an AI agent. -/
import Derived.Test.YtnngnfajmncjpaaGreatDoorZ02
import Derived.Test.YtnngnfajmncjpaaGreatDoorZ05
import Derived.Test.YtnngnfajmncjpaaGreatDoorZ06
import Derived.WalkKit
import Derived.RegionTactic
import Derived.ProofKit
import Derived.Deep.QuietTactic
import Derived.BigQuiet
import Derived.Lib.QuietBelow
import Derived.Outline
import Derived.Lib.Hide
import Derived.WalkSmall
import Derived.Deep.RegionHeld3
/- DERIVED. Contracts of the program's places of a shape: which number a letter stands for, and how it is shown. By an AI agent. -/
namespace Go.Proofs.YtnngnfajmncjpaaGreatDoor.Tx
open Go.ChangeShapes Go.WideShapes Go.ChangeAt Go.RowKit Go.Lib Go.Sort
set_option linter.unusedVariables false
def joinW : List Txt → Txt
  | [] => []
  | [w] => w
  | w :: r => w ++ 32 :: joinW r
/-- A place as the program has it, over the instruction at block b. -/
def plV (b : Nat) : Option Pl → Value
  | some p => .agg #[.pointer (some ⟨b, 1 + p.of, none⟩), .string ⟨(joinW p.ws).toArray⟩, .string ⟨(if p.ws = [] then [p.mark] else []).toArray⟩, .int .i64 p.times]
  | none => .agg #[.pointer none, .string ⟨#[]⟩, .string ⟨#[]⟩, .int .i64 0]
set_option maxHeartbeats 2000000 in
set_option maxRecDepth 100000 in
theorem placeOf (b : Nat) (c : UInt8) (hc : c.toNat < 128) (w : World) :
    Calls Tryz.prog 48 #[.int .i32 (c.toNat : Int), .pointer (some ⟨b, 0, none⟩)] w fun e w' => e = .returned (.tuple #[plV b (plc c), .bool (plc c).isSome]) ∧ Below w.heap.size w w' := by
  by_cases h68 : c = 68
  · subst h68
    go_enter Tryz.func48, Tryz.ntmps48
    go_wp2_with fail
    exact bodyPost_ret (v := .tuple #[plV b (plc 68), .bool true]) (by simp [results, Tryz.results48, go_sem, plV, plc, joinW]) rfl ⟨rfl, by repeat' (first | exact Below.refl _ _ | exact Nat.le_refl _ | refine Below.setCell ?_ ?_ _ | refine Below.alloc ?_ ?_ _)⟩
  by_cases h78 : c = 78
  · subst h78
    go_enter Tryz.func48, Tryz.ntmps48
    go_wp2_with fail
    exact bodyPost_ret (v := .tuple #[plV b (plc 78), .bool true]) (by simp [results, Tryz.results48, go_sem, plV, plc, joinW]) rfl ⟨rfl, by repeat' (first | exact Below.refl _ _ | exact Nat.le_refl _ | refine Below.setCell ?_ ?_ _ | refine Below.alloc ?_ ?_ _)⟩
  by_cases h77 : c = 77
  · subst h77
    go_enter Tryz.func48, Tryz.ntmps48
    go_wp2_with fail
    exact bodyPost_ret (v := .tuple #[plV b (plc 77), .bool true]) (by simp [results, Tryz.results48, go_sem, plV, plc, joinW]) rfl ⟨rfl, by repeat' (first | exact Below.refl _ _ | exact Nat.le_refl _ | refine Below.setCell ?_ ?_ _ | refine Below.alloc ?_ ?_ _)⟩
  by_cases h73 : c = 73
  · subst h73
    go_enter Tryz.func48, Tryz.ntmps48
    go_wp2_with fail
    exact bodyPost_ret (v := .tuple #[plV b (plc 73), .bool true]) (by simp [results, Tryz.results48, go_sem, plV, plc, joinW]) rfl ⟨rfl, by repeat' (first | exact Below.refl _ _ | exact Nat.le_refl _ | refine Below.setCell ?_ ?_ _ | refine Below.alloc ?_ ?_ _)⟩
  by_cases h72 : c = 72
  · subst h72
    go_enter Tryz.func48, Tryz.ntmps48
    go_wp2_with fail
    exact bodyPost_ret (v := .tuple #[plV b (plc 72), .bool true]) (by simp [results, Tryz.results48, go_sem, plV, plc, joinW]) rfl ⟨rfl, by repeat' (first | exact Below.refl _ _ | exact Nat.le_refl _ | refine Below.setCell ?_ ?_ _ | refine Below.alloc ?_ ?_ _)⟩
  by_cases h87 : c = 87
  · subst h87
    go_enter Tryz.func48, Tryz.ntmps48
    go_wp2_with fail
    exact bodyPost_ret (v := .tuple #[plV b (plc 87), .bool true]) (by simp [results, Tryz.results48, go_sem, plV, plc, joinW]) rfl ⟨rfl, by repeat' (first | exact Below.refl _ _ | exact Nat.le_refl _ | refine Below.setCell ?_ ?_ _ | refine Below.alloc ?_ ?_ _)⟩
  by_cases h65 : c = 65
  · subst h65
    go_enter Tryz.func48, Tryz.ntmps48
    go_wp2_with fail
    exact bodyPost_ret (v := .tuple #[plV b (plc 65), .bool true]) (by simp [results, Tryz.results48, go_sem, plV, plc, joinW, aluW]) rfl ⟨rfl, by repeat' (first | exact Below.refl _ _ | exact Nat.le_refl _ | refine Below.setCell ?_ ?_ _ | refine Below.alloc ?_ ?_ _)⟩
  by_cases h67 : c = 67
  · subst h67
    go_enter Tryz.func48, Tryz.ntmps48
    go_wp2_with fail
    exact bodyPost_ret (v := .tuple #[plV b (plc 67), .bool true]) (by simp [results, Tryz.results48, go_sem, plV, plc, joinW, cndW]) rfl ⟨rfl, by repeat' (first | exact Below.refl _ _ | exact Nat.le_refl _ | refine Below.setCell ?_ ?_ _ | refine Below.alloc ?_ ?_ _)⟩
  have hn : plc c = none := by unfold plc; rw [if_neg h68, if_neg h78, if_neg h77, if_neg h73, if_neg h72, if_neg h87, if_neg h65, if_neg h67]
  have e68 : ((c.toNat : Int) == 68) = false := by rw [beq_eq_false_iff_ne]; intro e; exact h68 (UInt8.toNat_inj.1 (by show c.toNat = 68; omega))
  have e78 : ((c.toNat : Int) == 78) = false := by rw [beq_eq_false_iff_ne]; intro e; exact h78 (UInt8.toNat_inj.1 (by show c.toNat = 78; omega))
  have e77 : ((c.toNat : Int) == 77) = false := by rw [beq_eq_false_iff_ne]; intro e; exact h77 (UInt8.toNat_inj.1 (by show c.toNat = 77; omega))
  have e73 : ((c.toNat : Int) == 73) = false := by rw [beq_eq_false_iff_ne]; intro e; exact h73 (UInt8.toNat_inj.1 (by show c.toNat = 73; omega))
  have e72 : ((c.toNat : Int) == 72) = false := by rw [beq_eq_false_iff_ne]; intro e; exact h72 (UInt8.toNat_inj.1 (by show c.toNat = 72; omega))
  have e87 : ((c.toNat : Int) == 87) = false := by rw [beq_eq_false_iff_ne]; intro e; exact h87 (UInt8.toNat_inj.1 (by show c.toNat = 87; omega))
  have e65 : ((c.toNat : Int) == 65) = false := by rw [beq_eq_false_iff_ne]; intro e; exact h65 (UInt8.toNat_inj.1 (by show c.toNat = 65; omega))
  have e67 : ((c.toNat : Int) == 67) = false := by rw [beq_eq_false_iff_ne]; intro e; exact h67 (UInt8.toNat_inj.1 (by show c.toNat = 67; omega))
  have HN := Lib.hid hn
  clear h68 h78 h77 h73 h72 h87 h65 h67 hn
  go_enter Tryz.func48, Tryz.ntmps48
  go_wp2_with fail
  exact bodyPost_ret (v := .tuple #[plV b none, .bool false]) (by simp [results, Tryz.results48, go_sem, plV]) rfl ⟨by rw [HN.out]; rfl, by repeat' (first | exact Below.refl _ _ | exact Nat.le_refl _ | refine Below.setCell ?_ ?_ _ | refine Below.alloc ?_ ?_ _)⟩
end Go.Proofs.YtnngnfajmncjpaaGreatDoor.Tx
