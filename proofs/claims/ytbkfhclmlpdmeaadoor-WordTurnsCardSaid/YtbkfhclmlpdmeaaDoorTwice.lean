/- DERIVED. The walk of the law that a word shifted twice is shifted by both, and one turned twice turned by both. By an AI agent. -/
import Derived.Test.YtbkfhclmlpdmeaaDoorShift2
import Derived.Test.YtbkfhclmlpdmeaaDoorArr
import Derived.WalkSmall
namespace Go.Proofs.YtbkfhclmlpdmeaaDoor
open Go.ChangeShapes Go.WideShapes Go.ChangeAt Go.RowKit WMath Word Lives
set_option linter.unusedVariables false
theorem rot_get (a : BitVec 32) (n i : Nat) (hi : i < 32) : (a.rotateLeft n).getLsbD i = a.getLsbD ((i + 32 - n % 32) % 32) := by
  rw [BitVec.getLsbD_rotateLeft]
  by_cases h : i < n % 32
  · simp only [h, decide_true, cond_true]
    congr 1; omega
  · simp only [h, decide_false, cond_false, hi, decide_true, Bool.true_and]
    congr 1; omega
theorem rot_rot (a : BitVec 32) (x y z : Nat) (h : z % 32 = (x + y) % 32) : (a.rotateLeft x).rotateLeft y = a.rotateLeft z := by
  apply BitVec.eq_of_getLsbD_eq; intro i hi
  rw [rot_get _ _ _ hi, rot_get _ _ _ (by omega), rot_get _ _ _ hi]
  congr 1; omega
theorem shV_twice (k : Int) (a : BitVec 32) (x y : Nat) : shV k (shV k a x) y = shV k a (x + y) := by
  unfold shV
  by_cases kk : k < 0 ∨ 3 < k
  · simp [kk]
  simp only [kk, if_false]
  by_cases hx : x = 0
  · subst hx; simp
  by_cases hy : y = 0
  · subst hy; simp
  simp only [hx, hy, if_false, show ¬ (x + y = 0) by omega]
  by_cases h0 : k = 0
  · simp only [h0, if_true]; rw [BitVec.shiftLeft_add]
  by_cases h1 : k = 1
  · simp only [h1, if_true]; apply BitVec.eq_of_toNat_eq; simp [Nat.shiftRight_add]
  by_cases h2 : k = 2
  · subst h2; simp [BitVec.sshiftRight_add]
  simp only [h0, h1, h2, if_false]
  exact rot_rot _ _ _ _ (by omega)
set_option maxHeartbeats 400000 in
theorem wordTwice.walk (k : Int) (w0 : (Lit.int .i64 k).wf = true) (a1 : Int) (w1 : (Lit.int .u32 a1).wf = true) (p q : Int) (wp : (Lit.int .u8 p).wf = true) (wq : (Lit.int .u8 q).wf = true) (W : World) (hL : Lv W) :
    Calls Tryd.prog 9 #[.int .i64 k, .int .u32 a1, .agg #[.int .u8 p, .int .u8 q]] W fun e w' => e = .returned (.bool true) ∧ Below W.heap.size W w' := by
  obtain ⟨a, rfl⟩ := word_wf a1 w1
  have bp := bounds_u8 wp; have bq := bounds_u8 wq
  obtain ⟨x, rfl⟩ := Int.eq_ofNat_of_zero_le bp.1
  obtain ⟨y, rfl⟩ := Int.eq_ofNat_of_zero_le bq.1
  have HL := Lib.hid hL
  clear hL w1 w0 wp wq
  go_enter Tryd.func9, Tryd.ntmps9
  go_wp2_with fail
  go_quiet (fail)
  go_wp2_with fail
  rw [show ((x : Int) % 64) = ((x % 64 : Nat) : Int) by omega, show ((y : Int) % 64) = ((y % 64 : Nat) : Int) by omega]
  have bx : x % 64 < 64 := by omega
  have bY : y % 64 < 64 := by omega
  have hb0 : Below W.heap.size W ((W.alloc (Obj.cells #[Value.int IntKind.u8 x, Value.int IntKind.u8 y] 37)).drewN nq) := below_drewN ((Below.refl _ _).alloc (Nat.le_refl _) _) nq
  generalize ((W.alloc (Obj.cells #[Value.int IntKind.u8 x, Value.int IntKind.u8 y] 37)).drewN nq) = W1 at hb0 ⊢
  generalize x % 64 = X at bx ⊢
  generalize y % 64 = Y at bY ⊢
  have HB := Lib.hid hb0
  have HL1 := Lib.hid (HL.out.below hb0)
  clear hb0 bp bq
  have es := shV_twice k a X Y
  have er := rot_rot a X Y (X + Y) rfl
  generalize hb1 : shV k a X = b at es
  generalize hb2 : shV k b Y = c at es
  generalize hb3 : a.rotateLeft X = d at er
  generalize hb4 : d.rotateLeft Y = e0 at er
  have HB1 := Lib.hid hb1; have HB2 := Lib.hid hb2; have HB3 := Lib.hid hb3; have HB4 := Lib.hid hb4
  have ES := Lib.hid es; have ER := Lib.hid er
  clear hb1 hb2 hb3 hb4 es er
  refine (shift k a X (by omega) false _).mono ?_; rintro e w' ⟨rfl, rfl⟩
  rw [HB1.out]
  go_wp2_with fail
  refine (shift k b Y (by omega) false _).mono ?_; rintro e w' ⟨rfl, rfl⟩
  rw [HB2.out]
  go_wp2_with fail
  rw [show ((X : Int) + (Y : Int)) = ((X + Y : Nat) : Int) by omega]
  refine (shift k a (X + Y) (by omega) false _).mono ?_; rintro e w' ⟨rfl, rfl⟩
  rw [← ES.out]
  go_wp2_with fail
  refine (rot a X (by omega) _).mono ?_; rintro e w' ⟨rfl, rfl⟩
  rw [HB3.out]
  go_wp2_with fail
  refine (rot d Y (by omega) _).mono ?_; rintro e w' ⟨rfl, rfl⟩
  rw [HB4.out]
  go_wp2_with fail
  rw [show ((X : Int) + (Y : Int)) = ((X + Y : Nat) : Int) by omega]
  refine (rot a (X + Y) (by omega) _).mono ?_; rintro e w' ⟨rfl, rfl⟩
  rw [← ER.out]
  go_wp2_with (go_at_call 13; refine (lives _ HL1.out).mono ?_; rintro e w' ⟨rfl, hb⟩)
  go_ret
  exact ⟨rfl, HB.out.trans (hb.mono HB.out.size)⟩
end Go.Proofs.YtbkfhclmlpdmeaaDoor
