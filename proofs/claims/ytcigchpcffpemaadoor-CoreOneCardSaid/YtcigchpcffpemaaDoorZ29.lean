/- DERIVED. CoRHo, CoEq in one text. By an AI agent. -/
import Derived.Test.YtcigchpcffpemaaDoorZ09
import Derived.Test.YtcigchpcffpemaaDoorZ08
import Derived.Deep.RegionHeld3
import Derived.BigRegion
import Derived.StillTailTactics
import Derived.Test.YtcigchpcffpemaaDoorZ06
import Derived.Laws.StructEq
/- DERIVED. Contracts of the program's Holds. By an AI agent. -/
namespace Go.Proofs.YtcigchpcffpemaaDoor.Co
open Go.ChangeShapes Go.WideShapes Go.ChangeAt Go.RowKit WMath Word Ref Args
set_option linter.unusedVariables false
set_option maxRecDepth 100000 in
set_option maxHeartbeats 4000000 in
theorem rholds (k : Int) (s : S) (w : World) : Calls Tryd.prog 64 #[.int .i64 k, sv s] w fun e w' => e = .returned (.bool (holdsB k s)) ∧ Below w.heap.size w w' := by
  by_cases hk : k < 0
  · rw [holds_not k s (.inl hk)]
    obtain ⟨r, pc, n, z, c, v⟩ := s
    show Calls _ _ #[.int .i64 k, .agg #[u (r 0), u (r 1), u (r 2), u (r 3), u (r 4), u (r 5), u (r 6), u (r 7), u pc, .bool n, .bool z, .bool c, .bool v]] w _
    go_enter Tryd.func64, Tryd.ntmps64
    go_wp2_with fail
    go_ret
    exact ⟨rfl, (by repeat (first | exact Below.refl _ _ | (with_reducible refine Below.setCell ?_ (by simp) _) | (with_reducible refine Below.alloc ?_ (by simp) _) | (with_reducible refine Below.drew ?_)))⟩
  by_cases hk3 : 13 < k
  · rw [holds_not k s (.inr hk3)]
    have k0 : decide (k < 0) = false := by simp; omega
    clear hk
    obtain ⟨r, pc, n, z, c, v⟩ := s
    show Calls _ _ #[.int .i64 k, .agg #[u (r 0), u (r 1), u (r 2), u (r 3), u (r 4), u (r 5), u (r 6), u (r 7), u pc, .bool n, .bool z, .bool c, .bool v]] w _
    go_enter Tryd.func64, Tryd.ntmps64
    go_wp2_with fail
    go_ret
    exact ⟨rfl, (by repeat (first | exact Below.refl _ _ | (with_reducible refine Below.setCell ?_ (by simp) _) | (with_reducible refine Below.alloc ?_ (by simp) _) | (with_reducible refine Below.drew ?_)))⟩
  have hr : k = 0 ∨ k = 1 ∨ k = 2 ∨ k = 3 ∨ k = 4 ∨ k = 5 ∨ k = 6 ∨ k = 7 ∨ k = 8 ∨ k = 9 ∨ k = 10 ∨ k = 11 ∨ k = 12 ∨ k = 13 := by omega
  have k0 : decide (k < 0) = false := by simp; omega
  have k1 : decide (13 < k) = false := by simp; omega
  obtain ⟨m, rfl⟩ := Int.eq_ofNat_of_zero_le (show 0 ≤ k by omega)
  have hm : (m : Int) < 14 := by omega
  have HR := Lib.hid hr
  clear hk hk3 hr
  obtain ⟨r, pc, n, z, c, v⟩ := s
  show Calls _ _ #[.int .i64 m, .agg #[u (r 0), u (r 1), u (r 2), u (r 3), u (r 4), u (r 5), u (r 6), u (r 7), u pc, .bool n, .bool z, .bool c, .bool v]] w _
  cases z <;> cases c
  · have hq : [Value.bool false, Value.bool true, Value.bool false, Value.bool true, Value.bool n, Value.bool (!n), Value.bool v, Value.bool (!v), Value.bool false, Value.bool true, Value.bool (n == v), Value.bool (!(n == v)), Value.bool (n == v), Value.bool (!(n == v))][m]? = some (.bool (holdsB m ⟨r, pc, n, false, false, v⟩)) := by
      obtain h | h | h | h | h | h | h | h | h | h | h | h | h | h := HR.out <;> (obtain rfl := Int.ofNat.inj h; cases n <;> cases v <;> rfl)
    go_enter Tryd.func64, Tryd.ntmps64
    go_wp2_with fail
    go_ret
    exact ⟨rfl, (by repeat (first | exact Below.refl _ _ | (with_reducible refine Below.setCell ?_ (by simp) _) | (with_reducible refine Below.alloc ?_ (by simp) _) | (with_reducible refine Below.drew ?_)))⟩
  · have hq : [Value.bool false, Value.bool true, Value.bool true, Value.bool false, Value.bool n, Value.bool (!n), Value.bool v, Value.bool (!v), Value.bool true, Value.bool false, Value.bool (n == v), Value.bool (!(n == v)), Value.bool (n == v), Value.bool (!(n == v))][m]? = some (.bool (holdsB m ⟨r, pc, n, false, true, v⟩)) := by
      obtain h | h | h | h | h | h | h | h | h | h | h | h | h | h := HR.out <;> (obtain rfl := Int.ofNat.inj h; cases n <;> cases v <;> rfl)
    go_enter Tryd.func64, Tryd.ntmps64
    go_wp2_with fail
    go_ret
    exact ⟨rfl, (by repeat (first | exact Below.refl _ _ | (with_reducible refine Below.setCell ?_ (by simp) _) | (with_reducible refine Below.alloc ?_ (by simp) _) | (with_reducible refine Below.drew ?_)))⟩
  · have hq : [Value.bool true, Value.bool false, Value.bool false, Value.bool true, Value.bool n, Value.bool (!n), Value.bool v, Value.bool (!v), Value.bool false, Value.bool true, Value.bool (n == v), Value.bool (!(n == v)), Value.bool false, Value.bool true][m]? = some (.bool (holdsB m ⟨r, pc, n, true, false, v⟩)) := by
      obtain h | h | h | h | h | h | h | h | h | h | h | h | h | h := HR.out <;> (obtain rfl := Int.ofNat.inj h; cases n <;> cases v <;> rfl)
    go_enter Tryd.func64, Tryd.ntmps64
    go_wp2_with fail
    go_ret
    exact ⟨rfl, (by repeat (first | exact Below.refl _ _ | (with_reducible refine Below.setCell ?_ (by simp) _) | (with_reducible refine Below.alloc ?_ (by simp) _) | (with_reducible refine Below.drew ?_)))⟩
  · have hq : [Value.bool true, Value.bool false, Value.bool true, Value.bool false, Value.bool n, Value.bool (!n), Value.bool v, Value.bool (!v), Value.bool false, Value.bool true, Value.bool (n == v), Value.bool (!(n == v)), Value.bool false, Value.bool true][m]? = some (.bool (holdsB m ⟨r, pc, n, true, true, v⟩)) := by
      obtain h | h | h | h | h | h | h | h | h | h | h | h | h | h := HR.out <;> (obtain rfl := Int.ofNat.inj h; cases n <;> cases v <;> rfl)
    go_enter Tryd.func64, Tryd.ntmps64
    go_wp2_with fail
    go_ret
    exact ⟨rfl, (by repeat (first | exact Below.refl _ _ | (with_reducible refine Below.setCell ?_ (by simp) _) | (with_reducible refine Below.alloc ?_ (by simp) _) | (with_reducible refine Below.drew ?_)))⟩
end Go.Proofs.YtcigchpcffpemaaDoor.Co
/- DERIVED. A state is the same as itself, as Go holds them against each other. By an AI agent. -/
namespace Go.Proofs.YtcigchpcffpemaaDoor.Co
open Go.ChangeShapes Go.WideShapes Go.ChangeAt Go.RowKit WMath Word
set_option linter.unusedVariables false
set_option linter.unusedSimpArgs false
theorem eq_arr (d : Nat) (a0 a1 a2 a3 a4 a5 a6 a7 : Int) (w : World) : (Op.equalIn (d + 2) 25 (.agg #[.int .u32 a0, .int .u32 a1, .int .u32 a2, .int .u32 a3, .int .u32 a4, .int .u32 a5, .int .u32 a6, .int .u32 a7]) (.agg #[.int .u32 a0, .int .u32 a1, .int .u32 a2, .int .u32 a3, .int .u32 a4, .int .u32 a5, .int .u32 a6, .int .u32 a7])).run Tryd.prog w = .ok true w := by
  have h1 : Tryd.prog.underlying 25 = some (.array 8 24) := by kernel_rfl
  have h2 : Tryd.prog.underlying 24 = some (.int .u32) := by kernel_rfl
  rw [Op.equalIn]
  simp [run_underlying h1, go_sem]
  rw [show List.range' 0 8 = [0, 1, 2, 3, 4, 5, 6, 7] from rfl]
  have h3 : ∀ w : World, (isAgg 24).run Tryd.prog w = .ok false w := fun w => by kernel_rfl
  simp [List.forIn_cons, go_sem, h2, h3, run_equalIn_int (d := d) _ _ _ _ _ _ h2]
theorem eq_state (s : S) (w : World) : (Op.equalIn 10000 27 (sv s) (sv s)).run Tryd.prog w = .ok true w := by
  have h0 : Tryd.prog.stoodInHeld 27 = false := by kernel_rfl
  have h1 := eq_arr 9997 ((s.r 0).toNat : Int) ((s.r 1).toNat : Int) ((s.r 2).toNat : Int) ((s.r 3).toNat : Int) ((s.r 4).toNat : Int) ((s.r 5).toNat : Int) ((s.r 6).toNat : Int) ((s.r 7).toNat : Int)
  have h2 : Tryd.prog.underlying 24 = some (.int .u32) := by kernel_rfl
  have h4 : Tryd.prog.underlying 4 = some .bool := by kernel_rfl
  have h5 : ∀ w : World, (isAgg 24).run Tryd.prog w = .ok false w := fun w => by kernel_rfl
  have h6 : ∀ w : World, (isAgg 4).run Tryd.prog w = .ok false w := fun w => by kernel_rfl
  have h7 : ∀ w : World, (isAgg 25).run Tryd.prog w = .ok true w := fun w => by kernel_rfl
  have h8 : ∀ w : World, (sizeOf 25).run Tryd.prog w = .ok 8 w := fun w => by kernel_rfl
  rw [run_equalIn_struct w 9999 27 _ _ (by kernel_rfl) h0]
  have h9 : ∀ w, _ := h1
  have h10 : ∀ (w : World) (a : Int), (Op.equalIn 9999 24 (.int .u32 a) (.int .u32 a)).run Tryd.prog w = .ok true w := fun w a => by
    rw [run_equalIn_int w 9998 _ _ _ _ _ h2]; simp
  have h11 : ∀ (w : World) (a : Bool), (Op.equalIn 9999 4 (.bool a) (.bool a)).run Tryd.prog w = .ok true w := fun w a => by
    rw [run_equalIn_bool' w 9998 _ _ _ h4]; simp
  have h12 : ∀ w : World, (Op.equalIn 9999 25 (.agg #[u (s.r 0), u (s.r 1), u (s.r 2), u (s.r 3), u (s.r 4), u (s.r 5), u (s.r 6), u (s.r 7)]) (.agg #[u (s.r 0), u (s.r 1), u (s.r 2), u (s.r 3), u (s.r 4), u (s.r 5), u (s.r 6), u (s.r 7)])).run Tryd.prog w = .ok true w := h1
  clear h1 h9
  simp only [Program.fieldsOf, Tryd.underlying27]
  simp [Op.eqFields, part, h5, h6, h7, h8, h10, h11, h12]
end Go.Proofs.YtcigchpcffpemaaDoor.Co
