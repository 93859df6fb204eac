/- DERIVED. CoRHo, CoEq in one text. By an AI agent. -/
import Derived.Test.YtkafmpdjpjgkgaaDoorZ09
import Derived.Test.YtkafmpdjpjgkgaaDoorZ08
import Derived.Deep.RegionHeld3
import Derived.BigRegion
import Derived.StillTailTactics
import Derived.Test.YtkafmpdjpjgkgaaDoorZ06
import Derived.Laws.StructEq
/- DERIVED. Contracts of the program's Holds. By an AI agent. -/
namespace Go.Proofs.YtkafmpdjpjgkgaaDoor.Co
open Go.ChangeShapes Go.WideShapes Go.ChangeAt Go.RowKit WMath Word Ref Args
set_option linter.unusedVariables false
set_option maxRecDepth 100000 in
set_option maxHeartbeats 4000000 in
theorem rholds (k : Int) (s : S) (w : World) : Calls Tryd.prog 51 #[.int .i64 k, sv s] w fun e w' => e = .returned (.bool (holdsB k s)) ∧ Below w.heap.size w w' := by
  by_cases hk : k < 0
  · rw [holds_not k s (.inl hk)]
    obtain ⟨r, pc, n, z, c, v⟩ := s
    show Calls _ _ #[.int .i64 k, .agg #[u (r 0), u (r 1), u (r 2), u (r 3), u (r 4), u (r 5), u (r 6), u (r 7), u pc, .bool n, .bool z, .bool c, .bool v]] w _
    go_enter Tryd.func51, Tryd.ntmps51
    go_wp2_with fail
    go_ret
    exact ⟨rfl, (by repeat (first | exact Below.refl _ _ | (with_reducible refine Below.setCell ?_ (by simp) _) | (with_reducible refine Below.alloc ?_ (by simp) _) | (with_reducible refine Below.drew ?_)))⟩
  by_cases hk3 : 13 < k
  · rw [holds_not k s (.inr hk3)]
    have k0 : decide (k < 0) = false := by simp; omega
    clear hk
    obtain ⟨r, pc, n, z, c, v⟩ := s
    show Calls _ _ #[.int .i64 k, .agg #[u (r 0), u (r 1), u (r 2), u (r 3), u (r 4), u (r 5), u (r 6), u (r 7), u pc, .bool n, .bool z, .bool c, .bool v]] w _
    go_enter Tryd.func51, Tryd.ntmps51
    go_wp2_with fail
    go_ret
    exact ⟨rfl, (by repeat (first | exact Below.refl _ _ | (with_reducible refine Below.setCell ?_ (by simp) _) | (with_reducible refine Below.alloc ?_ (by simp) _) | (with_reducible refine Below.drew ?_)))⟩
  have hr : k = 0 ∨ k = 1 ∨ k = 2 ∨ k = 3 ∨ k = 4 ∨ k = 5 ∨ k = 6 ∨ k = 7 ∨ k = 8 ∨ k = 9 ∨ k = 10 ∨ k = 11 ∨ k = 12 ∨ k = 13 := by omega
  have k0 : decide (k < 0) = false := by simp; omega
  have k1 : decide (13 < k) = false := by simp; omega
  obtain ⟨m, rfl⟩ := Int.eq_ofNat_of_zero_le (show 0 ≤ k by omega)
  have hm : (m : Int) < 14 := by omega
  have HR := Lib.hid hr
  clear hk hk3 hr
  obtain ⟨r, pc, n, z, c, v⟩ := s
  show Calls _ _ #[.int .i64 m, .agg #[u (r 0), u (r 1), u (r 2), u (r 3), u (r 4), u (r 5), u (r 6), u (r 7), u pc, .bool n, .bool z, .bool c, .bool v]] w _
  cases z <;> cases c
  · have hq : [Value.bool false, Value.bool true, Value.bool false, Value.bool true, Value.bool n, Value.bool (!n), Value.bool v, Value.bool (!v), Value.bool false, Value.bool true, Value.bool (n == v), Value.bool (!(n == v)), Value.bool (n == v), Value.bool (!(n == v))][m]? = some (.bool (holdsB m ⟨r, pc, n, false, false, v⟩)) := by
      obtain h | h | h | h | h | h | h | h | h | h | h | h | h | h := HR.out <;> (obtain rfl := Int.ofNat.inj h; cases n <;> cases v <;> rfl)
    go_enter Tryd.func51, Tryd.ntmps51
    go_wp2_with fail
    go_ret
    exact ⟨rfl, (by repeat (first | exact Below.refl _ _ | (with_reducible refine Below.setCell ?_ (by simp) _) | (with_reducible refine Below.alloc ?_ (by simp) _) | (with_reducible refine Below.drew ?_)))⟩
  · have hq : [Value.bool false, Value.bool true, Value.bool true, Value.bool false, Value.bool n, Value.bool (!n), Value.bool v, Value.bool (!v), Value.bool true, Value.bool false, Value.bool (n == v), Value.bool (!(n == v)), Value.bool (n == v), Value.bool (!(n == v))][m]? = some (.bool (holdsB m ⟨r, pc, n, false, true, v⟩)) := by
      obtain h | h | h | h | h | h | h | h | h | h | h | h | h | h := HR.out <;> (obtain rfl := Int.ofNat.inj h; cases n <;> cases v <;> rfl)
    go_enter Tryd.func51, Tryd.ntmps51
    go_wp2_with fail
    go_ret
    exact ⟨rfl, (by repeat (first | exact Below.refl _ _ | (with_reducible refine Below.setCell ?_ (by simp) _) | (with_reducible refine Below.alloc ?_ (by simp) _) | (with_reducible refine Below.drew ?_)))⟩
  · have hq : [Value.bool true, Value.bool false, Value.bool false, Value.bool true, Value.bool n, Value.bool (!n), Value.bool v, Value.bool (!v), Value.bool false, Value.bool true, Value.bool (n == v), Value.bool (!(n == v)), Value.bool false, Value.bool true][m]? = some (.bool (holdsB m ⟨r, pc, n, true, false, v⟩)) := by
      obtain h | h | h | h | h | h | h | h | h | h | h | h | h | h := HR.out <;> (obtain rfl := Int.ofNat.inj h; cases n <;> cases v <;> rfl)
    go_enter Tryd.func51, Tryd.ntmps51
    go_wp2_with fail
    go_ret
    exact ⟨rfl, (by repeat (first | exact Below.refl _ _ | (with_reducible refine Below.setCell ?_ (by simp) _) | (with_reducible refine Below.alloc ?_ (by simp) _) | (with_reducible refine Below.drew ?_)))⟩
  · have hq : [Value.bool true, Value.bool false, Value.bool true, Value.bool false, Value.bool n, Value.bool (!n), Value.bool v, Value.bool (!v), Value.bool false, Value.bool true, Value.bool (n == v), Value.bool (!(n == v)), Value.bool false, Value.bool true][m]? = some (.bool (holdsB m ⟨r, pc, n, true, true, v⟩)) := by
      obtain h | h | h | h | h | h | h | h | h | h | h | h | h | h := HR.out <;> (obtain rfl := Int.ofNat.inj h; cases n <;> cases v <;> rfl)
    go_enter Tryd.func51, Tryd.ntmps51
    go_wp2_with fail
    go_ret
    exact ⟨rfl, (by repeat (first | exact Below.refl _ _ | (with_reducible refine Below.setCell ?_ (by simp) _) | (with_reducible refine Below.alloc ?_ (by simp) _) | (with_reducible refine Below.drew ?_)))⟩
end Go.Proofs.YtkafmpdjpjgkgaaDoor.Co
/- DERIVED. A state is the same as itself, as Go holds them against each other. By an AI agent. -/
namespace Go.Proofs.YtkafmpdjpjgkgaaDoor.Co
open Go.ChangeShapes Go.WideShapes Go.ChangeAt Go.RowKit WMath Word
set_option linter.unusedVariables false
set_option linter.unusedSimpArgs false
end Go.Proofs.YtkafmpdjpjgkgaaDoor.Co
