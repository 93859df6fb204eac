/- DERIVED. Contracts of package word's functions over words of 32 bits: each returns what is said here and leaves the world as it is. By an AI agent. -/
import Derived.Test.YtkipfeljpngkeaaDoorRows
import Derived.Test.YtkipfeljpngkeaaDoorMath
import Derived.WalkKit
import Derived.RegionTactic
import Derived.ProofKit
import Derived.Deep.QuietTactic
import Derived.BigQuiet
import Derived.Outline
import Derived.Lib.Hide
namespace Go.Proofs.YtkipfeljpngkeaaDoor.Word
open Go.ChangeShapes Go.WideShapes Go.ChangeAt Go.RowKit WMath
abbrev u (x : BitVec 32) : Value := .int .u32 (x.toNat : Int)
theorem bd (x : BitVec 32) : (x.toNat : Int) < 4294967296 := by have := x.isLt; omega

theorem one (c : Bool) (w : World) : Calls Tryd.prog 74 #[.bool c] w fun e w' => e = .returned (.int .u32 ((cin c).toNat : Int)) ∧ w = w' := by
  cases c
  all_goals
    go_enter Tryd.func74, Tryd.ntmps74
    go_wp2
    go_ret
    exact ⟨rfl, rfl⟩

theorem add32 (a b : BitVec 32) (c : Int) (h0 : 0 ≤ c) (h1 : c ≤ 1) (w : World) :
    Calls Tryd.prog 73 #[u a, u b, .int .u32 c] w fun e w' => e = .returned (.tuple #[.int .u32 (((a.toNat : Int) + b.toNat + c) % 4294967296), .int .u32 (((a.toNat : Int) + b.toNat + c) / 4294967296)]) ∧ w = w' := by
  have h2 := bd a; have h3 := bd b
  go_enter Tryd.func73, Tryd.ntmps73
  go_wp2
  go_ret2
  exact ⟨rfl, rfl⟩

theorem highest (a : BitVec 32) (w : World) : Calls Tryd.prog 72 #[u a] w fun e w' => e = .returned (.bool a.msb) ∧ w = w' := by
  have h2 := bd a
  go_enter Tryd.func72, Tryd.ntmps72
  go_wp2
  go_ret
  refine ⟨?_, rfl⟩
  show Ending.returned (.bool ((a.toNat : Int) / 2147483648 == 1)) = _
  rw [top]

theorem add (a b : BitVec 32) (c : Bool) (w : World) :
    Calls Tryd.prog 67 #[u a, u b, .bool c] w fun e w' => e = .returned (.tuple #[u (sum a b c), .bool (carry a b c), .bool (over a b c)]) ∧ w = w' := by
  have h2 := bd a; have h3 := bd b; have h4 := bd (sum a b c)
  have k0 : 0 ≤ ((cin c).toNat : Int) := by omega
  have k1 : ((cin c).toNat : Int) ≤ 1 := by have := cin_le c; omega
  go_enter Tryd.func67, Tryd.ntmps67
  go_wp2_with fail
  refine (one c _).mono ?_; rintro e w' ⟨rfl, rfl⟩
  go_wp2_with fail
  refine (add32 a b _ k0 k1 _).mono ?_; rintro e w' ⟨rfl, rfl⟩
  rw [sum_int]
  go_wp2_with fail
  rw [b_xor, b_xor, b_and]
  refine (highest _ _).mono ?_; rintro e w' ⟨rfl, rfl⟩
  go_wp2_with fail
  rw [carry_int]
  go_ret3
  exact ⟨rfl, rfl⟩
end Go.Proofs.YtkipfeljpngkeaaDoor.Word
