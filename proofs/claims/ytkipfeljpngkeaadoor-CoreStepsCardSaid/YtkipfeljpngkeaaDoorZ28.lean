/- DERIVED. CoLv in one text. By an AI agent. -/
import Derived.Test.YtkipfeljpngkeaaDoorZ20
import Derived.Test.YtkipfeljpngkeaaDoorZ27
import Derived.Lib.QuietBelow
/- DERIVED. The laws' living call; the walk of CoreHolds. By an AI agent. -/
namespace Go.Proofs.YtkipfeljpngkeaaDoor.Co
open Go.ChangeShapes Go.WideShapes Go.ChangeAt Go.RowKit WMath Word Ref Args Mm
set_option linter.unusedVariables false
set_option linter.unusedSimpArgs false
def sL : S := zS.up 0 4294967295#32
def mL : St := ⟨[12289], noughts 1, [], 0, 0⟩
theorem fitL : Fit mL := ⟨by decide, noughts_in 1, nofun, by decide, by decide, by decide, by decide, by decide⟩
theorem l0 : (stepV sL mL).1.r 0 = 0#32 := by decide +kernel
theorem lz : (stepV sL mL).1.z = true := by decide +kernel
theorem lc : (stepV sL mL).1.c = true := by decide +kernel
theorem lp : (stepV sL mL).1.pc = 2#32 := by decide +kernel
theorem ls : (stepV sL mL).2.1 = false := by decide +kernel
theorem le : (stepV sL mL).2.2.1 = 0 := by decide +kernel
theorem stepL (h : Hd) (n0 : Nat) (w : World) (p : PP n0 h mL w) (hT : Tp.Tb w) :
    Calls Tryd.prog 13 #[.agg #[.int .u32 4294967295, .int .u32 0, .int .u32 0, .int .u32 0, .int .u32 0, .int .u32 0, .int .u32 0, .int .u32 0, .int .u32 0, .bool false, .bool false, .bool false, .bool false], ptr h.r] w
      fun e w' => ∃ (a1 a2 a3 a4 a5 a6 a7 : BitVec 32) (n v : Bool), e = .returned (.tuple #[.agg #[.int .u32 0, u a1, u a2, u a3, u a4, u a5, u a6, u a7, .int .u32 2, .bool n, .bool true, .bool true, .bool v], .bool false, .int .i64 0]) ∧ Upd h.X w w' := by
  refine (cstep sL n0 h mL w p hT).mono ?_
  rintro e w' ⟨he, _, hu⟩
  refine ⟨(stepV sL mL).1.r 1, (stepV sL mL).1.r 2, (stepV sL mL).1.r 3, (stepV sL mL).1.r 4, (stepV sL mL).1.r 5, (stepV sL mL).1.r 6, (stepV sL mL).1.r 7, (stepV sL mL).1.n, (stepV sL mL).1.v, ?_, hu⟩
  rw [he]
  simp only [sv, sC, l0, lz, lc, lp, ls, le]
  rfl
set_option maxRecDepth 100000 in
set_option maxHeartbeats 2000000 in
theorem lives (w : World) (hT : Tp.Tb w) : Calls Tryd.prog 9 #[] w fun e w' => e = .returned (.bool true) ∧ Below w.heap.size w w' := by
  have hl : Lies (w.alloc (.cells #[.int .u16 12289] 29)) (some ⟨w.heap.size, 0, none⟩) ([12289].map (.int .u16)) := fun j u hj => ⟨_, rfl, by rw [Args.add_plain, Nat.zero_add, World.cell?_alloc_at _ _ _ _ rfl]; simpa using hj⟩
  have hn := new_c (some ⟨w.heap.size, 0, none⟩) 1 [12289] 1 none 0 [] _ hl (Lies.nil _ _) (Nat.le_refl _) (by decide) fitL (by decide)
  have he : Ext w (w.alloc (.cells #[.int .u16 12289] 29)) := Ext.alloc _ _
  have HN := Lib.hid hn; have HE := Lib.hid he; have HT := Lib.hid hT
  clear hn hl he hT
  go_enter Tryd.func9, Tryd.ntmps9
  go_wp2_with fail
  refine HN.out.mono ?_
  rintro e w1 ⟨h, rfl, hp, hx⟩
  have HX := Lib.hid (HE.out.trans hx)
  have hlow : ∀ k, h.X k → w.heap.size ≤ k := fun k hk => Nat.le_trans HE.out.size (hp.X_low k hk)
  have HLOW := Lib.hid hlow; have HP := Lib.hid hp
  clear hp hx HN hlow HE
  go_wp2_with fail
  refine (stepL h _ _ HP.out (HT.out.below HX.out)).mono ?_
  rintro e w2 ⟨a1, a2, a3, a4, a5, a6, a7, n, v, rfl, hu⟩
  have HB := Lib.hid (back HX.out hu HLOW.out)
  clear hu HX HP HLOW
  go_wp2_with fail
  go_ret
  exact ⟨rfl, (show Below w.heap.size w w2 from HB.out).alloc (show w.heap.size ≤ w2.heap.size from HB.out.size) _⟩
set_option maxRecDepth 100000 in
set_option maxHeartbeats 4000000 in
theorem coreHolds.walk (W : World) (k : Int) (_hk : (Lit.int .i64 k).wf = true) (s : S) (x : BitVec 32) (hT : Tp.Tb W) :
    Calls Tryd.prog 5 #[.int .i64 k, sv s, u x] W fun e w' => e = .returned (.bool true) ∧ Below W.heap.size W w' := by
  have h1 := fun W => holds k s W
  have h2 := fun W => rholds k s W
  have h3 := fun W => flags s x W
  have h4 := fun W => rflags s x W
  generalize holdsB k s = b at *
  generalize s.fl x = s1 at *
  have H1 := Lib.hid h1; have H2 := Lib.hid h2; have H3 := Lib.hid h3; have H4 := Lib.hid h4; have HT := Lib.hid hT
  have hb : Blk (W.alloc (.cells (sC s) 27)) W.heap.size 27 (sC s) := Blk.new _ _ _
  have HB := Lib.hid (show Below W.heap.size W (W.alloc (.cells (sC s) 27)) from (Below.refl _ _).alloc (Nat.le_refl _) _)
  obtain ⟨c0, c1, c2, c3, c4, c5, c6, c7, c8, c9, c10, c11, c12⟩ := Blk.cells13 hb
  have r0 := fun d os => cell_regrown c0 d os; have r1 := fun d os => cell_regrown c1 d os; have r2 := fun d os => cell_regrown c2 d os; have r3 := fun d os => cell_regrown c3 d os; have r4 := fun d os => cell_regrown c4 d os
  have r5 := fun d os => cell_regrown c5 d os; have r6 := fun d os => cell_regrown c6 d os; have r7 := fun d os => cell_regrown c7 d os; have r8 := fun d os => cell_regrown c8 d os; have r9 := fun d os => cell_regrown c9 d os
  have r10 := fun d os => cell_regrown c10 d os; have r11 := fun d os => cell_regrown c11 d os; have r12 := fun d os => cell_regrown c12 d os
  clear h1 h2 h3 h4 hT hb c0 c1 c2 c3 c4 c5 c6 c7 c8 c9 c10 c11 c12
  go_enter Tryd.func5, Tryd.ntmps5
  go_wp2_with fail
  generalize W.alloc (.cells (sC s) 27) = w1 at *
  have hEq := eq_state s1
  have hG : Tryd.prog.eqGuardType Tryd.prog.depth 27 = false := by kernel_rfl
  refine wp_region_quiet_below (by kernel_rfl) (by kernel_rfl) ?_
  repeat (go_big_quiet_step ((first | (go_at_call 19; exact Calls.regrown_of (H1.out _)) | (go_at_call 20; exact Calls.regrown_of (H2.out _)) | (go_at_call 21; exact Calls.regrown_of (H3.out _)) | (go_at_call 22; exact Calls.regrown_of (H4.out _)) | (go_at_call 9; exact Calls.regrown_of (lives _ (HT.out.below (HB.out.trans ((below_regrown _ _ _).mono HB.out.size))))))))
  refine wpQuiet_nil ?_
  intro _ hw'
  obtain ⟨⟨dq, osq⟩, hw''⟩ := hw'
  subst hw''
  go_wp2_with fail
  go_ret
  exact ⟨rfl, HB.out.trans ((below_regrown _ dq osq).mono HB.out.size)⟩
end Go.Proofs.YtkipfeljpngkeaaDoor.Co
