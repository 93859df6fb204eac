/- DERIVED. LkLv in one text. By an AI agent. -/
import Derived.Test.YtcigchpcffpemaaDoorZ23
import Derived.Test.YtcigchpcffpemaaDoorZ21
import Derived.Lib.QuietBelow
/- DERIVED. The law's living call; the walk of LeakParts. By an AI agent. -/
namespace Go.Proofs.YtcigchpcffpemaaDoor.Lk
open Go.ChangeShapes Go.WideShapes Go.ChangeAt Go.RowKit WMath Word Args Mm Co
set_option linter.unusedVariables false
set_option linter.unusedSimpArgs false
def sL : S := zS.up 0 7#32
def mL : St := ⟨[8197], noughts 1, [], 0, 0⟩
theorem fitL : Fit mL := ⟨by decide, noughts_in 1, nofun, by decide, by decide, by decide, by decide, by decide⟩
theorem k1 : (leakV sL mL).l.b = 5#32 := by decide +kernel
theorem k2 : (leakV sL mL).l.r = 5#32 := by decide +kernel
theorem k3 : (leakV sL mL).l.o = 7#32 := by decide +kernel
theorem k4 : (leakV sL mL).l.h = 8197 := by decide +kernel
theorem k5 : (leakV sL mL).er = 0 := by decide +kernel
theorem stepL (h : Hd) (n0 : Nat) (w : World) (p : PP n0 h mL w) (W0 : World) (hT0 : Tp.Tb W0) (hlo : Below W0.heap.size W0 w) (hn : W0.heap.size ≤ n0) :
    Calls Tryd.prog 14 #[.agg #[.int .u32 7, .int .u32 0, .int .u32 0, .int .u32 0, .int .u32 0, .int .u32 0, .int .u32 0, .int .u32 0, .int .u32 0, .bool false, .bool false, .bool false, .bool false], ptr h.r] w
      fun e w' => ∃ (x : S) (pc a bus ad : BitVec 32) (me rn st : Bool), e = .returned (.tuple #[sv x, .agg #[u pc, .int .u16 8197, u a, .int .u32 5, .int .u32 5, .int .u32 7, u bus, u ad, .bool me, .bool rn], .bool st, .int .i64 0]) ∧ Upd h.X w w' := by
  refine (lstep sL n0 h mL w p W0 hT0 hlo hn).mono ?_
  rintro e w' ⟨he, _, hu⟩
  refine ⟨(leakV sL mL).s, (leakV sL mL).l.pc, (leakV sL mL).l.a, (leakV sL mL).l.bus, (leakV sL mL).l.ad, (leakV sL mL).l.me, (leakV sL mL).l.rn, (leakV sL mL).st, ?_, hu⟩
  rw [he]
  simp only [rV5, lv, lC, k1, k2, k3, k4, k5]
  rfl
set_option maxRecDepth 100000 in
set_option maxHeartbeats 2000000 in
theorem lives (w : World) (hT : Tp.Tb w) : Calls Tryd.prog 10 #[] w fun e w' => e = .returned (.bool true) ∧ Below w.heap.size w w' := by
  have hl : Lies (w.alloc (.cells #[.int .u16 8197] 29)) (some ⟨w.heap.size, 0, none⟩) ([8197].map (.int .u16)) := fun j u hj => ⟨_, rfl, by rw [Args.add_plain, Nat.zero_add, World.cell?_alloc_at _ _ _ _ rfl]; simpa using hj⟩
  have hn := new_c (some ⟨w.heap.size, 0, none⟩) 1 [8197] 1 none 0 [] _ hl (Lies.nil _ _) (Nat.le_refl _) (by decide) fitL (by decide)
  have he : Ext w (w.alloc (.cells #[.int .u16 8197] 29)) := Ext.alloc _ _
  have HN := Lib.hid hn; have HE := Lib.hid he; have HT := Lib.hid hT
  clear hn hl he hT
  go_enter Tryd.func10, Tryd.ntmps10
  go_wp2_with fail
  refine HN.out.mono ?_
  rintro e w1 ⟨h, rfl, hp, hx⟩
  have HX := Lib.hid (HE.out.trans hx)
  have hlow : ∀ k, h.X k → w.heap.size ≤ k := fun k hk => Nat.le_trans HE.out.size (hp.X_low k hk)
  have HLOW := Lib.hid hlow; have HP := Lib.hid hp
  clear hp hx HN hlow
  go_wp2_with fail
  refine (stepL h _ _ HP.out w HT.out HX.out (Below.size HE.out)).mono ?_
  rintro e w2 ⟨x, pc, a, bus, ad, me, rn, st, rfl, hu⟩
  have HB := Lib.hid (back HX.out hu HLOW.out)
  clear hu HX HP HLOW HE
  go_wp2_with fail
  go_ret
  exact ⟨rfl, ((show Below w.heap.size w w2 from HB.out).alloc (Below.size HB.out) _).alloc (by have := Below.size HB.out; simp only [World.size_alloc]; omega) _⟩
/-- The boxes of LeakParts. -/
structure Lp (W : World) (a b : L) (w : World) : Prop where
  b0 : Blk w W.heap.size 42 (lC a)
  b1 : Blk w (W.heap.size + 1) 42 (lC b)
  low : Below W.heap.size W w
theorem lp_new (W : World) (a b : L) : Lp W a b ((W.alloc (.cells (lC a) 42)).alloc (.cells (lC b) 42)) := by
  have h0 := Blk.new W 42 (lC a)
  have h1 := Blk.new (W.alloc (.cells (lC a) 42)) 42 (lC b)
  simp only [World.size_alloc] at h1
  exact ⟨h0.alloc _, h1, ((Below.refl _ _).alloc (Nat.le_refl _) _).alloc (by simp) _⟩
theorem Lp.below {W w w' : World} {a b : L} (h : Lp W a b w) (hb : Below w.heap.size w w') : Lp W a b w' := ⟨h.b0.below hb h.b0.lt, h.b1.below hb h.b1.lt, h.low.trans (hb.mono h.low.size)⟩
set_option maxRecDepth 100000 in
set_option maxHeartbeats 4000000 in
theorem leakParts.walk (W : World) (a b : L) (hT : Tp.Tb W) : Calls Tryd.prog 5 #[lv a, lv b] W fun e w' => e = .returned (.bool true) ∧ Below W.heap.size W w' := by
  have hV := fun w => values a w
  have hS := fun w => same a b w
  have hC := fun w => control a b w
  have hR := fun w => same a a w
  rw [same_self a] at hR
  generalize sameB a b = sm at *
  have hE := fun (d : Nat) => eq_arr5 d (a.a.toNat : Int) (a.b.toNat : Int) (a.r.toNat : Int) (a.o.toNat : Int) (a.bus.toNat : Int)
  have HV := Lib.hid hV; have HS := Lib.hid hS; have HC := Lib.hid hC; have HR := Lib.hid hR; have HT := Lib.hid hT; have HE := Lib.hid hE
  have HB := Lib.hid (lp_new W a b)
  clear hV hS hC hR hT hE
  go_enter Tryd.func5, Tryd.ntmps5
  go_upto_region 1 with fail
  obtain ⟨w0, hw0⟩ : ∃ w0, (W.alloc (.cells (lC a) 42)).alloc (.cells (lC b) 42) = w0 := ⟨_, rfl⟩
  rw [hw0] at HB
  rw [hw0]
  clear hw0
  obtain ⟨y0, y1, y2, y3, y4, y5, y6, y7, y8, y9⟩ := Blk.cells10 HB.out.b0
  go_wp2_with fail
  refine (HV.out _).mono ?_
  rintro e w1 ⟨rfl, hb⟩
  have HB1 := Lib.hid (HB.out.below hb)
  clear hb HB HV y0 y1 y2 y3 y4 y5 y6 y7 y8 y9
  go_upto_region 2 with fail
  have hx : Below w1.heap.size w1 (w1.alloc (.cells #[u a.a, u a.b, u a.r, u a.o, u a.bus] 54)) := (Below.refl _ _).alloc (Nat.le_refl _) _
  have HB2 := Lib.hid (HB1.out.below hx)
  have HK2 := Lib.hid (Blk.new w1 54 #[u a.a, u a.b, u a.r, u a.o, u a.bus])
  obtain ⟨w2, hw2⟩ : ∃ w2, w1.alloc (.cells #[u a.a, u a.b, u a.r, u a.o, u a.bus] 54) = w2 := ⟨_, rfl⟩
  rw [hw2] at HB2 HK2
  rw [hw2]
  generalize w1.heap.size = gv at *
  clear hw2 hx HB1
  obtain ⟨y0, y1, y2, y3, y4, y5, y6, y7, y8, y9⟩ := Blk.cells10 HB2.out.b0
  obtain ⟨x0, x1, x2, x3, x4, x5, x6, x7, x8, x9⟩ := Blk.cells10 HB2.out.b1
  have v0 : w2.cell? ⟨gv, 0, none⟩ = some (u a.a) := HK2.out.cell 0
  have v1 : w2.cell? ⟨gv, 1, none⟩ = some (u a.b) := HK2.out.cell 1
  have v2 : w2.cell? ⟨gv, 2, none⟩ = some (u a.r) := HK2.out.cell 2
  have v3 : w2.cell? ⟨gv, 3, none⟩ = some (u a.o) := HK2.out.cell 3
  have v4 : w2.cell? ⟨gv, 4, none⟩ = some (u a.bus) := HK2.out.cell 4
  have ry0 := fun d os => cell_regrown y0 d os; have ry1 := fun d os => cell_regrown y1 d os; have ry2 := fun d os => cell_regrown y2 d os; have ry3 := fun d os => cell_regrown y3 d os; have ry4 := fun d os => cell_regrown y4 d os
  have ry5 := fun d os => cell_regrown y5 d os; have ry6 := fun d os => cell_regrown y6 d os; have ry7 := fun d os => cell_regrown y7 d os; have ry8 := fun d os => cell_regrown y8 d os; have ry9 := fun d os => cell_regrown y9 d os
  have rx0 := fun d os => cell_regrown x0 d os; have rx1 := fun d os => cell_regrown x1 d os; have rx2 := fun d os => cell_regrown x2 d os; have rx3 := fun d os => cell_regrown x3 d os; have rx4 := fun d os => cell_regrown x4 d os
  have rx5 := fun d os => cell_regrown x5 d os; have rx6 := fun d os => cell_regrown x6 d os; have rx7 := fun d os => cell_regrown x7 d os; have rx8 := fun d os => cell_regrown x8 d os; have rx9 := fun d os => cell_regrown x9 d os
  have rv0 := fun d os => cell_regrown v0 d os; have rv1 := fun d os => cell_regrown v1 d os; have rv2 := fun d os => cell_regrown v2 d os; have rv3 := fun d os => cell_regrown v3 d os; have rv4 := fun d os => cell_regrown v4 d os
  clear y0 y1 y2 y3 y4 y5 y6 y7 y8 y9 x0 x1 x2 x3 x4 x5 x6 x7 x8 x9 v0 v1 v2 v3 v4
  have hEq := HE.out 9998
  have hG : Tryd.prog.eqGuardType Tryd.prog.depth 54 = false := by kernel_rfl
  refine wp_region_quiet_below (by kernel_rfl) (by kernel_rfl) ?_
  repeat (go_big_quiet_step ((first | (go_at_call 21; with_reducible exact Calls.regrown_of (HS.out _)) | (go_at_call 21; with_reducible exact Calls.regrown_of (HR.out _)) | (go_at_call 22; with_reducible exact Calls.regrown_of (HC.out _)) | (go_at_call 10; exact Calls.regrown_of (lives _ (HT.out.below (HB2.out.low.trans ((below_regrown _ _ _).mono HB2.out.low.size))))))))
  refine wpQuiet_nil ?_
  intro _ hw'
  obtain ⟨⟨dq, osq⟩, hw''⟩ := hw'
  subst hw''
  go_wp2_with fail
  go_ret
  exact ⟨rfl, HB2.out.low.trans ((below_regrown _ dq osq).mono HB2.out.low.size)⟩
end Go.Proofs.YtcigchpcffpemaaDoor.Lk
