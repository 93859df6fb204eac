/- DERIVED. A state is the same as itself, as Go holds them against each other. By an AI agent. -/
import Derived.Test.YtkipfeljpngkeaaDoorCoSpec
import Derived.Laws.StructEq
namespace Go.Proofs.YtkipfeljpngkeaaDoor.Co
open Go.ChangeShapes Go.WideShapes Go.ChangeAt Go.RowKit WMath Word
set_option linter.unusedVariables false
set_option linter.unusedSimpArgs false
theorem eq_arr (d : Nat) (a0 a1 a2 a3 a4 a5 a6 a7 : Int) (w : World) : (Op.equalIn (d + 2) 25 (.agg #[.int .u32 a0, .int .u32 a1, .int .u32 a2, .int .u32 a3, .int .u32 a4, .int .u32 a5, .int .u32 a6, .int .u32 a7]) (.agg #[.int .u32 a0, .int .u32 a1, .int .u32 a2, .int .u32 a3, .int .u32 a4, .int .u32 a5, .int .u32 a6, .int .u32 a7])).run Tryd.prog w = .ok true w := by
  have h1 : Tryd.prog.underlying 25 = some (.array 8 24) := by kernel_rfl
  have h2 : Tryd.prog.underlying 24 = some (.int .u32) := by kernel_rfl
  rw [Op.equalIn]
  simp [run_underlying h1, go_sem]
  rw [show List.range' 0 8 = [0, 1, 2, 3, 4, 5, 6, 7] from rfl]
  have h3 : ∀ w : World, (isAgg 24).run Tryd.prog w = .ok false w := fun w => by kernel_rfl
  simp [List.forIn_cons, go_sem, h2, h3, run_equalIn_int (d := d) _ _ _ _ _ _ h2]
theorem eq_state (s : S) (w : World) : (Op.equalIn 10000 27 (sv s) (sv s)).run Tryd.prog w = .ok true w := by
  have h0 : Tryd.prog.stoodInHeld 27 = false := by kernel_rfl
  have h1 := eq_arr 9997 ((s.r 0).toNat : Int) ((s.r 1).toNat : Int) ((s.r 2).toNat : Int) ((s.r 3).toNat : Int) ((s.r 4).toNat : Int) ((s.r 5).toNat : Int) ((s.r 6).toNat : Int) ((s.r 7).toNat : Int)
  have h2 : Tryd.prog.underlying 24 = some (.int .u32) := by kernel_rfl
  have h4 : Tryd.prog.underlying 4 = some .bool := by kernel_rfl
  have h5 : ∀ w : World, (isAgg 24).run Tryd.prog w = .ok false w := fun w => by kernel_rfl
  have h6 : ∀ w : World, (isAgg 4).run Tryd.prog w = .ok false w := fun w => by kernel_rfl
  have h7 : ∀ w : World, (isAgg 25).run Tryd.prog w = .ok true w := fun w => by kernel_rfl
  have h8 : ∀ w : World, (sizeOf 25).run Tryd.prog w = .ok 8 w := fun w => by kernel_rfl
  rw [run_equalIn_struct w 9999 27 _ _ (by kernel_rfl) h0]
  have h9 : ∀ w, _ := h1
  have h10 : ∀ (w : World) (a : Int), (Op.equalIn 9999 24 (.int .u32 a) (.int .u32 a)).run Tryd.prog w = .ok true w := fun w a => by
    rw [run_equalIn_int w 9998 _ _ _ _ _ h2]; simp
  have h11 : ∀ (w : World) (a : Bool), (Op.equalIn 9999 4 (.bool a) (.bool a)).run Tryd.prog w = .ok true w := fun w a => by
    rw [run_equalIn_bool' w 9998 _ _ _ h4]; simp
  have h12 : ∀ w : World, (Op.equalIn 9999 25 (.agg #[u (s.r 0), u (s.r 1), u (s.r 2), u (s.r 3), u (s.r 4), u (s.r 5), u (s.r 6), u (s.r 7)]) (.agg #[u (s.r 0), u (s.r 1), u (s.r 2), u (s.r 3), u (s.r 4), u (s.r 5), u (s.r 6), u (s.r 7)])).run Tryd.prog w = .ok true w := h1
  clear h1 h9
  simp only [Program.fieldsOf, Tryd.underlying27]
  simp [Op.eqFields, part, h5, h6, h7, h8, h10, h11, h12]
end Go.Proofs.YtkipfeljpngkeaaDoor.Co
