/- DERIVED. CoLv in one text. By an AI agent. -/
import Derived.Test.YtcigchpcffpemaaDoorZ20
import Derived.Test.YtcigchpcffpemaaDoorZ29
import Derived.Lib.QuietBelow
/- DERIVED. The laws' living call; the walk of CoreHolds. By an AI agent. -/
namespace Go.Proofs.YtcigchpcffpemaaDoor.Co
open Go.ChangeShapes Go.WideShapes Go.ChangeAt Go.RowKit WMath Word Ref Args Mm
set_option linter.unusedVariables false
set_option linter.unusedSimpArgs false
def sL : S := zS.up 0 4294967295#32
def mL : St := ⟨[12289], noughts 1, [], 0, 0⟩
theorem fitL : Fit mL := ⟨by decide, noughts_in 1, nofun, by decide, by decide, by decide, by decide, by decide⟩
theorem l0 : (stepV sL mL).1.r 0 = 0#32 := by decide +kernel
theorem lz : (stepV sL mL).1.z = true := by decide +kernel
theorem lc : (stepV sL mL).1.c = true := by decide +kernel
theorem lp : (stepV sL mL).1.pc = 2#32 := by decide +kernel
theorem ls : (stepV sL mL).2.1 = false := by decide +kernel
theorem le : (stepV sL mL).2.2.1 = 0 := by decide +kernel
theorem stepL (h : Hd) (n0 : Nat) (w : World) (p : PP n0 h mL w) (hT : Tp.Tb w) :
    Calls Tryd.prog 16 #[.agg #[.int .u32 4294967295, .int .u32 0, .int .u32 0, .int .u32 0, .int .u32 0, .int .u32 0, .int .u32 0, .int .u32 0, .int .u32 0, .bool false, .bool false, .bool false, .bool false], ptr h.r] w
      fun e w' => ∃ (a1 a2 a3 a4 a5 a6 a7 : BitVec 32) (n v : Bool), e = .returned (.tuple #[.agg #[.int .u32 0, u a1, u a2, u a3, u a4, u a5, u a6, u a7, .int .u32 2, .bool n, .bool true, .bool true, .bool v], .bool false, .int .i64 0]) ∧ Upd h.X w w' := by
  refine (cstep sL n0 h mL w p hT).mono ?_
  rintro e w' ⟨he, _, hu⟩
  refine ⟨(stepV sL mL).1.r 1, (stepV sL mL).1.r 2, (stepV sL mL).1.r 3, (stepV sL mL).1.r 4, (stepV sL mL).1.r 5, (stepV sL mL).1.r 6, (stepV sL mL).1.r 7, (stepV sL mL).1.n, (stepV sL mL).1.v, ?_, hu⟩
  rw [he]
  simp only [sv, sC, l0, lz, lc, lp, ls, le]
  rfl
set_option maxRecDepth 100000 in
set_option maxHeartbeats 2000000 in
theorem lives (w : World) (hT : Tp.Tb w) : Calls Tryd.prog 25 #[] w fun e w' => e = .returned (.bool true) ∧ Below w.heap.size w w' := by
  have hl : Lies (w.alloc (.cells #[.int .u16 12289] 29)) (some ⟨w.heap.size, 0, none⟩) ([12289].map (.int .u16)) := fun j u hj => ⟨_, rfl, by rw [Args.add_plain, Nat.zero_add, World.cell?_alloc_at _ _ _ _ rfl]; simpa using hj⟩
  have hn := new_c (some ⟨w.heap.size, 0, none⟩) 1 [12289] 1 none 0 [] _ hl (Lies.nil _ _) (Nat.le_refl _) (by decide) fitL (by decide)
  have he : Ext w (w.alloc (.cells #[.int .u16 12289] 29)) := Ext.alloc _ _
  have HN := Lib.hid hn; have HE := Lib.hid he; have HT := Lib.hid hT
  clear hn hl he hT
  go_enter Tryd.func25, Tryd.ntmps25
  go_wp2_with fail
  refine HN.out.mono ?_
  rintro e w1 ⟨h, rfl, hp, hx⟩
  have HX := Lib.hid (HE.out.trans hx)
  have hlow : ∀ k, h.X k → w.heap.size ≤ k := fun k hk => Nat.le_trans HE.out.size (hp.X_low k hk)
  have HLOW := Lib.hid hlow; have HP := Lib.hid hp
  clear hp hx HN hlow HE
  go_wp2_with fail
  refine (stepL h _ _ HP.out (HT.out.below HX.out)).mono ?_
  rintro e w2 ⟨a1, a2, a3, a4, a5, a6, a7, n, v, rfl, hu⟩
  have HB := Lib.hid (back HX.out hu HLOW.out)
  clear hu HX HP HLOW
  go_wp2_with fail
  go_ret
  exact ⟨rfl, (show Below w.heap.size w w2 from HB.out).alloc (show w.heap.size ≤ w2.heap.size from HB.out.size) _⟩
end Go.Proofs.YtcigchpcffpemaaDoor.Co
