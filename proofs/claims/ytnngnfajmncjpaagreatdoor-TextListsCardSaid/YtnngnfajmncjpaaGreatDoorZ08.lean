/- DERIVED. TxRef, TxStr in one text. By an AI agent. -/
import Derived.Test.YtnngnfajmncjpaaGreatDoorRows
import Derived.Test.YtnngnfajmncjpaaGreatDoorZ02
import Derived.WalkKit
import Derived.RegionTactic
import Derived.ProofKit
import Derived.Deep.QuietTactic
import Derived.BigQuiet
import Derived.Outline
import Derived.Lib.Hide
import Derived.Laws.DeepStrings4
import Derived.Laws.Strings3
import Derived.Deep.RegionHeld
/- DERIVED. Contracts of the reference's numerals: each returns the digits and leaves the world as it is. By an AI agent. -/
namespace Go.Proofs.YtnngnfajmncjpaaGreatDoor.Tx
open Go.ChangeShapes Go.WideShapes Go.ChangeAt Go.RowKit Go.Lib
set_option linter.unusedVariables false
abbrev str (l : Txt) : Value := .string ⟨l.toArray⟩
def D10 : ByteArray := ⟨#[48, 49, 50, 51, 52, 53, 54, 55, 56, 57]⟩
theorem d10_at (r : Nat) (hr : r < 10) : D10.extract r (r + 1) = ⟨(decDigits r).toArray⟩ := by
  rw [decDigits_one hr]
  have : ∀ i : Fin 10, D10.extract i.val (i.val + 1) = ⟨#[UInt8.ofNat (48 + i.val)]⟩ := by decide
  exact this ⟨r, hr⟩
theorem str_app (a b : Txt) : (⟨a.toArray⟩ : ByteArray) ++ ⟨b.toArray⟩ = ⟨(a ++ b).toArray⟩ := by
  apply ByteArray.ext
  rw [ByteArray.data_append]
  simp
set_option maxRecDepth 20000 in
set_option maxHeartbeats 800000 in
theorem num_nat (k : Nat) : ∀ (u : Nat) (w : World), u ≤ k → u ≤ 100000 → Calls Tryz.prog 64 #[.int .i64 (u : Int)] w fun e w' => e = .returned (str (decDigits u)) ∧ w = w' := by
  induction k with
  | zero =>
    intro u w hk hu
    obtain rfl : u = 0 := by omega
    clear hk hu
    have hx := Lib.hid (d10_at 0 (by decide))
    go_enter Tryz.func64, Tryz.ntmps64
    go_wp2_with fail
    go_ret
    exact ⟨congrArg (fun x => Ending.returned (.string x)) hx.out, rfl⟩
  | succ k ih =>
    intro u w hk hu
    by_cases hn : u < 10
    · have hx := Lib.hid (d10_at u hn)
      clear ih hk hu
      go_enter Tryz.func64, Tryz.ntmps64
      go_wp2_with fail
      go_ret
      exact ⟨congrArg (fun x => Ending.returned (.string x)) hx.out, rfl⟩
    · have i1 := fun w => ih (u / 10) w (by omega) (by omega)
      have i2 := fun w => ih (u % 10) w (by omega) (by omega)
      have hd : decDigits u = decDigits (u / 10) ++ decDigits (u % 10) := by
        rw [decDigits, dif_neg hn, decDigits_one (by omega : u % 10 < 10)]
      have l1 := dec_len (u / 10) (by omega)
      have l2 := dec_len (u % 10) (by omega)
      generalize decDigits (u / 10) = L1 at *
      generalize decDigits (u % 10) = L2 at *
      have HD := Lib.hid hd; have I1 := Lib.hid i1; have I2 := Lib.hid i2; have IH := Lib.hid ih
      clear hd i1 i2 ih
      go_enter Tryz.func64, Tryz.ntmps64
      go_wp2_with fail
      refine (I1.out _).mono ?_; rintro e w' ⟨rfl, rfl⟩
      go_wp2_with fail
      refine (I2.out _).mono ?_; rintro e w' ⟨rfl, rfl⟩
      go_wp2_with fail
      go_ret
      exact ⟨by rw [HD.out]; exact congrArg (fun x => Ending.returned (.string x)) (str_app _ _), rfl⟩
theorem itoa_len (n : Int) (h0 : -100000 ≤ n) (h1 : n ≤ 100000) : (itoa n).length ≤ 7 := by
  unfold itoa
  split
  · have := dec_len n.natAbs (by omega)
    simp; omega
  · have := dec_len n.toNat (by omega)
    omega
set_option maxHeartbeats 800000 in
theorem num (n : Int) (h0 : -100000 ≤ n) (h1 : n ≤ 100000) (w : World) : Calls Tryz.prog 64 #[.int .i64 n] w fun e w' => e = .returned (str (itoa n)) ∧ w = w' := by
  by_cases hn : n < 0
  · obtain ⟨u, rfl⟩ : ∃ u : Nat, n = -(u : Int) := ⟨n.natAbs, by omega⟩
    have i1 := fun w => num_nat 100000 u w (by omega) (by omega)
    have hd : itoa (-(u : Int)) = [45] ++ decDigits u := by unfold itoa; rw [if_pos hn, Int.natAbs_neg]; rfl
    have l1 := dec_len u (by omega)
    rw [hd]
    generalize decDigits u = L1 at *
    have I1 := Lib.hid i1
    clear hd i1
    go_enter Tryz.func64, Tryz.ntmps64
    go_wp2_with fail
    refine (I1.out _).mono ?_; rintro e w' ⟨rfl, rfl⟩
    go_wp2_with fail
    go_ret
    exact ⟨congrArg (fun x => Ending.returned (.string x)) (str_app [45] _), rfl⟩
  · obtain ⟨u, rfl⟩ := Int.eq_ofNat_of_zero_le (by omega : 0 ≤ n)
    rw [show itoa (u : Int) = decDigits u by unfold itoa; rw [if_neg (by omega)]; rfl]
    exact num_nat 100000 u w (by omega) (by omega)
theorem reg (n : Int) (h0 : -100000 ≤ n) (h1 : n ≤ 100000) (w : World) : Calls Tryz.prog 46 #[.int .i64 n] w fun e w' => e = .returned (str (114 :: itoa n)) ∧ w = w' := by
  have i1 := fun w => num n h0 h1 w
  have l1 := itoa_len n h0 h1
  generalize itoa n = L1 at *
  have I1 := Lib.hid i1
  clear i1
  go_enter Tryz.func46, Tryz.ntmps46
  go_wp2_with fail
  refine (I1.out _).mono ?_; rintro e w' ⟨rfl, rfl⟩
  go_wp2_with fail
  go_ret
  exact ⟨congrArg (fun x => Ending.returned (.string x)) (str_app [114] _), rfl⟩
theorem imm (n : Int) (h0 : -100000 ≤ n) (h1 : n ≤ 100000) (w : World) : Calls Tryz.prog 47 #[.int .i64 n] w fun e w' => e = .returned (str (35 :: itoa n)) ∧ w = w' := by
  have i1 := fun w => num n h0 h1 w
  have l1 := itoa_len n h0 h1
  generalize itoa n = L1 at *
  have I1 := Lib.hid i1
  clear i1
  go_enter Tryz.func47, Tryz.ntmps47
  go_wp2_with fail
  refine (I1.out _).mono ?_; rintro e w' ⟨rfl, rfl⟩
  go_wp2_with fail
  go_ret
  exact ⟨congrArg (fun x => Ending.returned (.string x)) (str_app [35] _), rfl⟩
end Go.Proofs.YtnngnfajmncjpaaGreatDoor.Tx
/- DERIVED. A region in whatever order under a stronger condition. Of no program. By an AI agent. -/
namespace Go.Proofs.YtnngnfajmncjpaaGreatDoor.TxR
open Go
section
variable {P : Program} {ops : Array Oper} {Q : Exit → Act → World → Prop} {md : Region.Mode} {S T : World → Prop}
/-- What goes under a stronger condition goes under the weaker one. -/
theorem anyH_strong (hST : ∀ w, T w → S w) : ∀ (fuel : Nat) (listed : Array Bool) (a : Act) (w : World), wpAnyH P md ops Q T fuel listed a w → wpAnyH P md ops Q S fuel listed a w
  | 0, _, _, _, h => h
  | fuel + 1, _, _, _, h => ⟨h.1, fun i hi => wpOp_mono (fun _ _ h' => ⟨hST _ h'.1, anyH_strong hST fuel _ _ _ h'.2⟩) (h.2 i hi)⟩
theorem anyH_row (hST : ∀ w, T w → S w) {fuel : Nat} {listed : Array Bool} {a : Act} {w : World} (hT : T w) (h : T w → wpAnyH P md ops Q T fuel listed a w) : wpAnyH P md ops Q S fuel listed a w :=
  anyH_strong hST _ _ _ _ (h hT)
end
end Go.Proofs.YtnngnfajmncjpaaGreatDoor.TxR
