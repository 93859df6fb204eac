/- DERIVED. The contract of package word's Shift; the law that a word shifted twice is shifted by both. By an AI agent. -/
import Derived.Test.YtkipfeljpngkeaaDoorShift
namespace Go.Proofs.YtkipfeljpngkeaaDoor.Word
open Go.ChangeShapes Go.WideShapes Go.ChangeAt Go.RowKit WMath
set_option linter.unusedVariables false
def shV (k : Int) (a : BitVec 32) (n : Nat) : BitVec 32 :=
  if k < 0 ∨ 3 < k then 0 else if n = 0 then a else if k = 0 then a <<< n else if k = 1 then a >>> n else if k = 2 then a.sshiftRight n else a.rotateLeft ((32 - n % 32) % 32)
def shC (k : Int) (a : BitVec 32) (n : Nat) (c : Bool) : Bool :=
  if k < 0 ∨ 3 < k then false else if n = 0 then c else if k = 0 then decide (a.toNat * 2 ^ n / 4294967296 % 2 = 1) else if k = 1 then decide (a.toNat * 2 / 2 ^ n % 2 = 1)
  else if k = 2 then decide (a.toInt * 2 / 2 ^ n % 2 = 1) else (a.rotateLeft ((32 - n % 32) % 32)).msb
set_option maxHeartbeats 400000 in
theorem shift (k : Int) (a : BitVec 32) (n : Nat) (hn : n < 4294967296) (c : Bool) (w : World) :
    Calls Tryd.prog 66 #[.int .i64 k, u a, .int .u32 n, .bool c] w fun e w' => e = .returned (.tuple #[u (shV k a n), .bool (shC k a n c)]) ∧ w = w' := by
  have h2 := bd a
  by_cases k0 : k < 0
  · go_enter Tryd.func66, Tryd.ntmps66
    go_wp2
    go_ret2
    exact ⟨by simp [shV, shC, k0], rfl⟩
  have k0' : decide (k < 0) = false := by simpa using k0
  by_cases k3 : 3 < k
  · go_enter Tryd.func66, Tryd.ntmps66
    go_wp2
    go_ret2
    exact ⟨by simp [shV, shC, k3], rfl⟩
  have k3' : decide (3 < k) = false := by simpa using k3
  have kk : ¬ (k < 0 ∨ 3 < k) := by omega
  by_cases n0 : n = 0
  · subst n0
    go_enter Tryd.func66, Tryd.ntmps66
    go_wp2
    go_ret2
    exact ⟨by simp [shV, shC, kk], rfl⟩
  have n0' : ((n : Int) == 0) = false := by simpa using n0
  have hsh : k = 0 ∨ k = 1 ∨ k = 2 ∨ k = 3 := by omega
  rcases hsh with rfl | rfl | rfl | rfl
  · go_enter Tryd.func66, Tryd.ntmps66
    go_wp2_with (go_at_call 68; refine (left a n hn _).mono ?_; rintro e w' ⟨rfl, rfl⟩)
    go_ret2
    exact ⟨by simp [shV, shC, n0], rfl⟩
  · go_enter Tryd.func66, Tryd.ntmps66
    go_wp2_with (go_at_call 69; refine (right a n hn _).mono ?_; rintro e w' ⟨rfl, rfl⟩)
    go_ret2
    exact ⟨by simp [shV, shC, n0], rfl⟩
  · go_enter Tryd.func66, Tryd.ntmps66
    go_wp2_with (go_at_call 70; refine (rightS a n hn _).mono ?_; rintro e w' ⟨rfl, rfl⟩)
    go_ret2
    exact ⟨by simp [shV, shC, n0], rfl⟩
  · have hs : (32 - n % 32) % 32 < 32 := by omega
    go_enter Tryd.func66, Tryd.ntmps66
    go_wp2_with fail
    refine (rotl a _ ((32 - n % 32) % 32) hs (by omega) _).mono ?_; rintro e w' ⟨rfl, rfl⟩
    go_wp2_with (go_at_call 72; refine (highest _ _).mono ?_; rintro e w' ⟨rfl, rfl⟩)
    go_ret2
    refine ⟨?_, rfl⟩
    simp [shV, shC, n0]
end Go.Proofs.YtkipfeljpngkeaaDoor.Word
