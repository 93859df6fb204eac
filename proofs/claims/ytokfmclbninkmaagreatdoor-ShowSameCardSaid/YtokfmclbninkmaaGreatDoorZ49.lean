/- DERIVED. ShRg, ShTd in one text. By an AI agent. -/
import Derived.Test.YtokfmclbninkmaaGreatDoorZ15
import Derived.Test.YtokfmclbninkmaaGreatDoorZ36
import Derived.Test.YtokfmclbninkmaaGreatDoorZ48
/- DERIVED. The reference's Program and Expr. By an AI agent. -/
namespace Go.Proofs.YtokfmclbninkmaaGreatDoor.Rt
open Go Go.ChangeShapes Go.WideShapes Go.ChangeAt Go.RowKit Lx Args Pa Sh Wr Pq
set_option linter.unusedVariables false
set_option linter.unusedSimpArgs false
theorem prTs_cons (d : Nat → Bs) (x : Tz) (l : List Tz) : prTs d (x :: l) = stT d x ++ [10] ++ prTs d l := rfl
/-- What the reference tells of a tree that may be gone through. -/
def RtV (R : List Tk → Out → Prop) (s : Bs) (z : Tz) (e : Ending) : Prop := (pa 300 3000 z ≤ 3000 ∧ ToldV R s z e) ∨ (¬ pa 300 3000 z ≤ 3000 ∧ e = .returned (.tuple #[.string ⟨#[]⟩, .int .i64 1]))
set_option maxRecDepth 100000 in
set_option maxHeartbeats 2000000 in
theorem rExpr (z : Tz) (hok : okz z) (hB : (exT dec z).length ≤ 1099511627776) (w : World) (k a : Int) (s : Bs) (n : Nat) (A : Option Addr) (la cA : Nat) (B : Option Addr) (lb cB : Nat) (hT : TIz w z (nzC k a s n A la cA B lb cB)) :
    Calls Tryz.prog 11 #[nzA k a s n A la cA B lb cB] w fun e w' => RtV ExprR (exT dec z) z e ∧ Below w.heap.size w w' := by
  obtain ⟨w1, hw1, hb1, hX1⟩ := a_box w (nB k a s n A la cA B lb cB)
  obtain ⟨⟨e0, e1, e2, e3, e4, e5⟩, z0, z1, z2, z3, z4, z5⟩ := Blk.c6 hX1
  have hxl := hX1.lt
  have hpl := pa_le z 300 3000
  have HP := Lib.hid (rparts (SizeOf.sizeOf z + 1) z (Nat.lt_succ_self _) w1 k a s n A la cA B lb cB 300 3000 (by decide) (by decide) (TIz.below hb1 hT))
  have HTZ := Lib.hid fun w2 (hb : Below w.heap.size w w2) => TIz.below hb hT
  have HE := Lib.hid fun w2 (hb : Below w.heap.size w w2) => exr (SizeOf.sizeOf z + 1) z (Nat.lt_succ_self _) hok hB w2 k a s n A la cA B lb cB (TIz.below hb hT)
  have HW := Lib.hid hw1; have HB1 := Lib.hid hb1; have HX1 := Lib.hid hX1
  obtain ⟨np, hnp⟩ : ∃ np, pa 300 3000 z = np := ⟨_, rfl⟩
  have HNP := Lib.hid hnp
  rw [hnp] at HP hpl
  clear hT hw1 hb1 hX1 hok hB hnp
  go_enter Tryz.func11, Tryz.ntmps11
  go_wp2_with fail
  rw [HW.out]
  refine (show Calls Tryz.prog 15 #[nzA k a s n A la cA B lb cB, .int .i64 300, .int .i64 3000] w1 _ from HP.out).mono ?_
  rintro e w2 ⟨rfl, hb2⟩
  have hx2 := HX1.out.below hb2 hxl
  clear e0 e1 e2 e3 e4 e5 z0 z1 z2 z3 z4 z5
  obtain ⟨⟨e0, e1, e2, e3, e4, e5⟩, z0, z1, z2, z3, z4, z5⟩ := Blk.c6 hx2
  have hxl2 := hx2.lt
  have HX2 := Lib.hid hx2; have HB2 := Lib.hid (HB1.out.trans (hb2.mono HB1.out.size))
  clear hx2 hb2 HP
  by_cases hsm : np ≤ 3000
  rotate_left
  · have i1 : decide ((3000 : Int) < (np : Int)) = true := by simp; omega
    have i2 : decide (3000 < np) = true := by simp; omega
    have hend : RtV ExprR (exT dec z) z (.returned (.tuple #[.string ⟨#[]⟩, .int .i64 1])) := .inr ⟨by rw [HNP.out]; exact hsm, rfl⟩
    have HEND := Lib.hid hend
    clear hend hsm
    go_wp2_with fail
    go_ret2
    exact ⟨HEND.out, HB2.out⟩
  have i1 : decide ((3000 : Int) < (np : Int)) = false := by simp; omega
  have i2 : decide (3000 < np) = false := by simp; omega
  have HSM := Lib.hid (show pa 300 3000 z ≤ 3000 by rw [HNP.out]; exact hsm)
  have HE2 := Lib.hid (HE.out w2 HB2.out)
  obtain ⟨tx, htx⟩ : ∃ tx, exT dec z = tx := ⟨_, rfl⟩
  rw [htx] at HE2
  have HTX := Lib.hid htx
  clear hsm htx
  go_wp2_with fail
  refine HE2.out.mono ?_
  rintro e w3 ⟨rfl, hb3⟩
  have HRD := Lib.hid (r_expr ⟨tx.toArray⟩ w3)
  have HX3 := Lib.hid (HX2.out.below hb3 hxl2); have HB3 := Lib.hid (HB2.out.trans (hb3.mono HB2.out.size))
  clear hb3 e0 e1 e2 e3 e4 e5 z0 z1 z2 z3 z4 z5 HE2
  go_wp2_with fail
  refine HRD.out.mono ?_
  rintro e w4 (⟨k', a', sx, n', A', la', cA', B', lb', cB', x, t, r, rfl, h1, h2, h3, hTx, hb4⟩ | ⟨a', er, rfl, hbad, hb4⟩)
  · have hiff := isT_ok (z := z) one_E h1 h2 h3
    have hx4 := HX3.out.below hb4 HX3.out.lt
    obtain ⟨⟨e0, e1, e2, e3, e4, e5⟩, z0, z1, z2, z3, z4, z5⟩ := Blk.c6 hx4
    have hxl4 := hx4.lt
    have HB4 := Lib.hid (HB3.out.trans (hb4.mono HB3.out.size))
    obtain ⟨w5, hw5, hb5, hX5⟩ := a_box w4 (nB (k' : Int) (a' : Int) sx n' A' la' cA' B' lb' cB')
    have HS := Lib.hid (rsameB (SizeOf.sizeOf (embz x) + 1) (embz x) z (Nat.lt_succ_self _) w5 (k' : Int) (a' : Int) sx n' A' la' cA' B' lb' cB' k a s n A la cA B lb cB (TIz.below hb5 (tIz_of hTx)) (HTZ.out w5 (HB4.out.trans (hb5.mono HB4.out.size))))
    have HW5 := Lib.hid hw5; have HB5 := Lib.hid (HB4.out.trans (hb5.mono HB4.out.size)); have HIFF := Lib.hid hiff
    obtain ⟨res, hres⟩ : ∃ res, sameB (embz x) z = res := ⟨_, rfl⟩
    rw [hres] at HS HIFF
    clear h1 h2 h3 hTx hb4 hx4 hiff hw5 hb5 hX5 hres
    go_wp2_with fail
    rw [HW5.out]
    refine (show Calls Tryz.prog 13 #[nzA (k' : Int) (a' : Int) sx n' A' la' cA' B' lb' cB', nzA k a s n A la cA B lb cB, .bool false] w5 _ from HS.out).mono ?_
    rintro e w6 ⟨rfl, hb6⟩
    have HB6 := Lib.hid (HB5.out.trans (hb6.mono HB5.out.size))
    clear hb6
    cases res with
    | true =>
      have hend : RtV ExprR (exT dec z) z (.returned (.tuple #[.string ⟨tx.toArray⟩, .int .i64 0])) := .inl ⟨HSM.out, .inl ⟨by rw [HTX.out]; exact HIFF.out.2 rfl, by rw [HTX.out]⟩⟩
      have HEND := Lib.hid hend
      clear hend
      go_wp2_with fail
      go_ret2
      exact ⟨HEND.out, HB6.out⟩
    | false =>
      have hend : RtV ExprR (exT dec z) z (.returned (.tuple #[.string ⟨#[]⟩, .int .i64 1])) := .inl ⟨HSM.out, .inr ⟨by rw [HTX.out]; exact fun h => absurd (HIFF.out.1 h) (by decide), rfl⟩⟩
      have HEND := Lib.hid hend
      clear hend
      go_wp2_with fail
      go_ret2
      exact ⟨HEND.out, HB6.out⟩
  · have hno := isT_bad (z := z) nobad_E nomore_E hbad
    have her := er_E hbad
    have hq : ((er : Int) != 0) = true := by simp; omega
    have HB4 := Lib.hid (HB3.out.trans (hb4.mono HB3.out.size))
    have hend : RtV ExprR (exT dec z) z (.returned (.tuple #[.string ⟨#[]⟩, .int .i64 1])) := .inl ⟨HSM.out, .inr ⟨by rw [HTX.out]; exact hno, rfl⟩⟩
    have HEND := Lib.hid hend
    have HB5 := Lib.hid (HB4.out.alloc HB4.out.size (.cells zNd 26))
    clear hend hno hbad hb4 her
    go_wp2_with fail
    go_ret2
    exact ⟨HEND.out, HB5.out⟩
end Go.Proofs.YtokfmclbninkmaaGreatDoor.Rt
/- DERIVED. The program's told, Program and Expr. By an AI agent. -/
namespace Go.Proofs.YtokfmclbninkmaaGreatDoor.Wr
open Go Go.ChangeShapes Go.WideShapes Go.ChangeAt Go.RowKit Lx Args Pa Sh
set_option linter.unusedVariables false
set_option linter.unusedSimpArgs false
/-- Trees that have a text, if any. -/
def Sml (z : Tz) : Prop := cntz z ≤ 3000 ∧ depz z ≤ 300 ∧ ls z = true
/-- What is told of a tree, r being what was written. -/
def TdV (R : List Tk → Out → Prop) (r : Bs) (z : Tz) (e : Ending) : Prop := (Sml z ∧ ToldV R r z e) ∨ (¬ Sml z ∧ e = .returned (.tuple #[.string ⟨#[]⟩, .int .i64 1]))
theorem w_new (w : World) : ∃ w1, w.alloc (.cells #[.pointer none, .slice none 0 0] 58) = w1 ∧ Below w.heap.size w w1 ∧ IsW w.heap.size [] w1 :=
  ⟨_, rfl, (Below.refl _ _).alloc (Nat.le_refl _) _, Or.inl ⟨Nat.le_refl _, .slice none 0 0, heap_alloc_new w _, World.ownsRowF_nil _ _ _ _, by simp [Value.ownBlock]⟩⟩

set_option maxRecDepth 100000 in
set_option maxHeartbeats 2000000 in
theorem toldE (z : Tz) (w : World) (k a : Int) (s : Bs) (n : Nat) (A : Option Addr) (la cA : Nat) (B : Option Addr) (lb cB : Nat) (hT : TIz w z (nzC k a s n A la cA B lb cB))
    (HWR : ls z = true → ∀ (w2 : World) (bp : Nat), Below w.heap.size w w2 → w.heap.size ≤ bp → IsW bp [] w2 → Calls Tryz.prog 22 #[.pointer (some ⟨bp, 0, none⟩), nzA k a s n A la cA B lb cB] w2 (WrP bp w2 [] (shE z) (exT dec z))) :
    Calls Tryz.prog 17 #[nzA k a s n A la cA B lb cB, .func (.func 22) #[] #[], .func (.func 23) #[] #[]] w fun e w' => (∃ r, (shE z → Cut [] (exT dec z) r) ∧ TdV ExprR r z e) ∧ Below w.heap.size w w' := by
  have hb1 : Below w.heap.size w (w.alloc (.cells (nB k a s n A la cA B lb cB) 26)) := (Below.refl _ _).alloc (Nat.le_refl _) _
  obtain ⟨w1, hw1⟩ : ∃ w1, w.alloc (.cells (nB k a s n A la cA B lb cB) 26) = w1 := ⟨_, rfl⟩
  have hX1 : Blk w1 w.heap.size 26 (nB k a s n A la cA B lb cB) := by rw [← hw1]; exact Blk.new _ _ _
  rw [hw1] at hb1
  obtain ⟨⟨e0, e1, e2, e3, e4, e5⟩, z0, z1, z2, z3, z4, z5⟩ := Blk.c6 hX1
  have hxl := hX1.lt
  have HRO := Lib.hid (room (SizeOf.sizeOf z + 1) z (Nat.lt_succ_self _) w1 k a s n A la cA B lb cB 3000 300 (by decide) (by decide) (TIz.below hb1 hT))
  have HTZ := Lib.hid fun w2 (hb : Below w.heap.size w w2) => TIz.below hb hT
  have hrm := rm_spec z 3000 300
  have HWH := Lib.hid HWR; have HW := Lib.hid hw1; have HB1 := Lib.hid hb1; have HX1 := Lib.hid hX1
  obtain ⟨ro, hro⟩ : ∃ ro, rm 3000 300 z = ro := ⟨_, rfl⟩
  rw [hro] at HRO hrm
  have HRM := Lib.hid hrm
  clear hT HWR hw1 hb1 hX1 hrm hro
  go_enter Tryz.func17, Tryz.ntmps17
  go_wp2_with fail
  rw [HW.out]
  refine (show Calls Tryz.prog 31 #[nzA k a s n A la cA B lb cB, .int .i64 3000, .int .i64 300] w1 _ from HRO.out).mono ?_
  rintro e w2 ⟨rfl, hb2⟩
  have hx2 := HX1.out.below hb2 hxl
  clear e0 e1 e2 e3 e4 e5 z0 z1 z2 z3 z4 z5
  obtain ⟨⟨e0, e1, e2, e3, e4, e5⟩, z0, z1, z2, z3, z4, z5⟩ := Blk.c6 hx2
  have hxl2 := hx2.lt
  have HX2 := Lib.hid hx2; have HB2 := Lib.hid (HB1.out.trans (hb2.mono HB1.out.size))
  have h12 := hb2.size
  clear hx2 hb2 HRO
  by_cases hsm : Sml z
  rotate_left
  · have hr0 := HRM.out.2 hsm
    rw [hr0]
    have hv : roV none = -1 := rfl
    rw [hv]
    have hend : (∃ r, (shE z → Cut [] (exT dec z) r) ∧ TdV ExprR r z (.returned (.tuple #[.string ⟨#[]⟩, .int .i64 1]))) := ⟨exT dec z, fun _ => ⟨fun _ => rfl, fun h => by simpa using h⟩, .inr ⟨hsm, rfl⟩⟩
    have HEND := Lib.hid hend
    clear hend hsm hr0
    go_wp2_with fail
    go_ret2
    exact ⟨HEND.out, HB2.out⟩
  have hr0 := HRM.out.1 hsm
  obtain ⟨nd, hnd⟩ : ∃ nd, 3000 - cntz z = nd := ⟨_, rfl⟩
  rw [hnd] at hr0
  rw [hr0]
  have hv : roV (some nd) = (nd : Int) := rfl
  rw [hv]
  have hq : ((nd : Int) == -1) = false := by first | (simp; done) | (simp; omega)
  obtain ⟨w3, hw3, hb3, hi3⟩ := w_new w2
  have HWR3 := Lib.hid (HWH.out hsm.2.2 w3 w2.heap.size (HB2.out.trans (hb3.mono HB2.out.size)) (by omega) hi3)
  have HX3 := Lib.hid (HX2.out.below hb3 hxl2); have HB3 := Lib.hid (HB2.out.trans (hb3.mono HB2.out.size)); have HW3 := Lib.hid hw3; have HSM := Lib.hid hsm
  clear hsm hr0 hnd hv hw3 hb3 hi3 HRM HWH
  go_wp2_with fail
  rw [HW3.out]
  refine HWR3.out.mono ?_
  rintro e w4 ⟨rfl, r, h1, h2, h3, h4⟩
  have HST := Lib.hid (wstring w2.heap.size r w4 h1)
  have HCUT := Lib.hid h3; have HB4 := Lib.hid (low_trans HB3.out (by omega) h4)
  have HX4 := Lib.hid (h4.low.block w.heap.size (by omega) |>.trans HX3.out)
  have h34 := h4.le
  clear h1 h2 h3 h4 e0 e1 e2 e3 e4 e5 z0 z1 z2 z3 z4 z5
  go_wp2_with fail
  refine HST.out.mono ?_
  rintro e w5 ⟨rfl, hb5⟩
  have HRD := Lib.hid (p_expr ⟨r.toArray⟩ w5)
  have h45 := hb5.size
  have HX5 := Lib.hid (show Blk w5 w.heap.size 26 (nB k a s n A la cA B lb cB) from (hb5.block w.heap.size (by omega)).trans HX4.out); have HB5 := Lib.hid (HB4.out.trans (hb5.mono (show w.heap.size ≤ w2.heap.size by omega)))
  clear hb5 HST HX4
  go_wp2_with fail
  refine HRD.out.mono ?_
  rintro e w6 (⟨k', a', sx, n', A', la', cA', B', lb', cB', x, t, rr, rfl, h1, h2, h3, hTx, hb6⟩ | ⟨a', er, rfl, hbad, hb6⟩)
  · have hiff := isT_ok (z := z) one_E h1 h2 h3
    have hx6 := HX5.out.below hb6 HX5.out.lt
    obtain ⟨⟨e0, e1, e2, e3, e4, e5⟩, z0, z1, z2, z3, z4, z5⟩ := Blk.c6 hx6
    have hxl6 := hx6.lt
    have HB6 := Lib.hid (HB5.out.trans (hb6.mono HB5.out.size))
    obtain ⟨w7, hw7⟩ : ∃ w7, w6.alloc (.cells (nB (k' : Int) (a' : Int) sx n' A' la' cA' B' lb' cB') 26) = w7 := ⟨_, rfl⟩
    have hb7 : Below w6.heap.size w6 w7 := by rw [← hw7]; exact (Below.refl _ _).alloc (Nat.le_refl _) _
    have HS := Lib.hid (psame (SizeOf.sizeOf (embz x) + 1) (embz x) z (Nat.lt_succ_self _) w7 (k' : Int) (a' : Int) sx n' A' la' cA' B' lb' cB' k a s n A la cA B lb cB (TIz.below hb7 (tIz_of hTx)) (HTZ.out w7 (HB6.out.trans (hb7.mono HB6.out.size))))
    have HW7 := Lib.hid hw7; have HB7 := Lib.hid (HB6.out.trans (hb7.mono HB6.out.size)); have HIFF := Lib.hid hiff
    obtain ⟨res, hres⟩ : ∃ res, sameB (embz x) z = res := ⟨_, rfl⟩
    rw [hres] at HS HIFF
    clear h1 h2 h3 hTx hb6 hx6 hiff hw7 hb7 hres
    go_wp2_with fail
    rw [HW7.out]
    refine (show Calls Tryz.prog 12 #[nzA (k' : Int) (a' : Int) sx n' A' la' cA' B' lb' cB', nzA k a s n A la cA B lb cB] w7 _ from HS.out).mono ?_
    rintro e w8 ⟨rfl, hb8⟩
    have HB8 := Lib.hid (HB7.out.trans (hb8.mono HB7.out.size))
    clear hb8
    cases res with
    | true =>
      have hend : (∃ r, (shE z → Cut [] (exT dec z) r) ∧ TdV ExprR r z (.returned (.tuple #[.string ⟨r.toArray⟩, .int .i64 0]))) := ⟨r, HCUT.out, .inl ⟨HSM.out, .inl ⟨HIFF.out.2 rfl, rfl⟩⟩⟩
      have hend2 : (∃ r', (shE z → Cut [] (exT dec z) r') ∧ TdV ExprR r' z (.returned (.tuple #[.string ⟨r.toArray⟩, .int .i64 0]))) := ⟨r, HCUT.out, .inl ⟨HSM.out, .inl ⟨HIFF.out.2 rfl, rfl⟩⟩⟩
      have HEND := Lib.hid hend2
      clear hend hend2
      go_wp2_with fail
      go_ret2
      exact ⟨HEND.out, HB8.out⟩
    | false =>
      have hend : (∃ r', (shE z → Cut [] (exT dec z) r') ∧ TdV ExprR r' z (.returned (.tuple #[.string ⟨#[]⟩, .int .i64 1]))) := ⟨r, HCUT.out, .inl ⟨HSM.out, .inr ⟨fun h => absurd (HIFF.out.1 h) (by decide), rfl⟩⟩⟩
      have HEND := Lib.hid hend
      clear hend
      go_wp2_with fail
      go_ret2
      exact ⟨HEND.out, HB8.out⟩
  · have hno := isT_bad (z := z) nobad_E nomore_E hbad
    have her := er_E hbad
    have hq2 : ((er : Int) != 0) = true := by simp; omega
    have HB6 := Lib.hid (HB5.out.trans (hb6.mono HB5.out.size))
    have hend : (∃ r', (shE z → Cut [] (exT dec z) r') ∧ TdV ExprR r' z (.returned (.tuple #[.string ⟨#[]⟩, .int .i64 1]))) := ⟨r, HCUT.out, .inl ⟨HSM.out, .inr ⟨hno, rfl⟩⟩⟩
    have HEND := Lib.hid hend
    have HB7 := Lib.hid (HB6.out.alloc HB6.out.size (.cells #[.int .i64 0, .string ⟨#[]⟩, .int .u32 0, .int .i64 0, .slice none 0 0, .slice none 0 0] 26))
    clear hend hno hbad hb6 her
    go_wp2_with fail
    go_ret2
    exact ⟨HEND.out, HB7.out⟩

set_option maxRecDepth 100000 in
set_option maxHeartbeats 2000000 in
theorem toldP (z : Tz) (w : World) (k a : Int) (s : Bs) (n : Nat) (A : Option Addr) (la cA : Nat) (B : Option Addr) (lb cB : Nat) (hT : TIz w z (nzC k a s n A la cA B lb cB))
    (HWR : ls z = true → ∀ (w2 : World) (bp : Nat), Below w.heap.size w w2 → w.heap.size ≤ bp → IsW bp [] w2 → Calls Tryz.prog 18 #[.pointer (some ⟨bp, 0, none⟩), nzA k a s n A la cA B lb cB] w2 (WrP bp w2 [] (shP z) (prT dec z))) :
    Calls Tryz.prog 17 #[nzA k a s n A la cA B lb cB, .func (.func 18) #[] #[], .func (.func 19) #[] #[]] w fun e w' => (∃ r, (shP z → Cut [] (prT dec z) r) ∧ TdV ProgR r z e) ∧ Below w.heap.size w w' := by
  have hb1 : Below w.heap.size w (w.alloc (.cells (nB k a s n A la cA B lb cB) 26)) := (Below.refl _ _).alloc (Nat.le_refl _) _
  obtain ⟨w1, hw1⟩ : ∃ w1, w.alloc (.cells (nB k a s n A la cA B lb cB) 26) = w1 := ⟨_, rfl⟩
  have hX1 : Blk w1 w.heap.size 26 (nB k a s n A la cA B lb cB) := by rw [← hw1]; exact Blk.new _ _ _
  rw [hw1] at hb1
  obtain ⟨⟨e0, e1, e2, e3, e4, e5⟩, z0, z1, z2, z3, z4, z5⟩ := Blk.c6 hX1
  have hxl := hX1.lt
  have HRO := Lib.hid (room (SizeOf.sizeOf z + 1) z (Nat.lt_succ_self _) w1 k a s n A la cA B lb cB 3000 300 (by decide) (by decide) (TIz.below hb1 hT))
  have HTZ := Lib.hid fun w2 (hb : Below w.heap.size w w2) => TIz.below hb hT
  have hrm := rm_spec z 3000 300
  have HWH := Lib.hid HWR; have HW := Lib.hid hw1; have HB1 := Lib.hid hb1; have HX1 := Lib.hid hX1
  obtain ⟨ro, hro⟩ : ∃ ro, rm 3000 300 z = ro := ⟨_, rfl⟩
  rw [hro] at HRO hrm
  have HRM := Lib.hid hrm
  clear hT HWR hw1 hb1 hX1 hrm hro
  go_enter Tryz.func17, Tryz.ntmps17
  go_wp2_with fail
  rw [HW.out]
  refine (show Calls Tryz.prog 31 #[nzA k a s n A la cA B lb cB, .int .i64 3000, .int .i64 300] w1 _ from HRO.out).mono ?_
  rintro e w2 ⟨rfl, hb2⟩
  have hx2 := HX1.out.below hb2 hxl
  clear e0 e1 e2 e3 e4 e5 z0 z1 z2 z3 z4 z5
  obtain ⟨⟨e0, e1, e2, e3, e4, e5⟩, z0, z1, z2, z3, z4, z5⟩ := Blk.c6 hx2
  have hxl2 := hx2.lt
  have HX2 := Lib.hid hx2; have HB2 := Lib.hid (HB1.out.trans (hb2.mono HB1.out.size))
  have h12 := hb2.size
  clear hx2 hb2 HRO
  by_cases hsm : Sml z
  rotate_left
  · have hr0 := HRM.out.2 hsm
    rw [hr0]
    have hv : roV none = -1 := rfl
    rw [hv]
    have hend : (∃ r, (shP z → Cut [] (prT dec z) r) ∧ TdV ProgR r z (.returned (.tuple #[.string ⟨#[]⟩, .int .i64 1]))) := ⟨prT dec z, fun _ => ⟨fun _ => rfl, fun h => by simpa using h⟩, .inr ⟨hsm, rfl⟩⟩
    have HEND := Lib.hid hend
    clear hend hsm hr0
    go_wp2_with fail
    go_ret2
    exact ⟨HEND.out, HB2.out⟩
  have hr0 := HRM.out.1 hsm
  obtain ⟨nd, hnd⟩ : ∃ nd, 3000 - cntz z = nd := ⟨_, rfl⟩
  rw [hnd] at hr0
  rw [hr0]
  have hv : roV (some nd) = (nd : Int) := rfl
  rw [hv]
  have hq : ((nd : Int) == -1) = false := by first | (simp; done) | (simp; omega)
  obtain ⟨w3, hw3, hb3, hi3⟩ := w_new w2
  have HWR3 := Lib.hid (HWH.out hsm.2.2 w3 w2.heap.size (HB2.out.trans (hb3.mono HB2.out.size)) (by omega) hi3)
  have HX3 := Lib.hid (HX2.out.below hb3 hxl2); have HB3 := Lib.hid (HB2.out.trans (hb3.mono HB2.out.size)); have HW3 := Lib.hid hw3; have HSM := Lib.hid hsm
  clear hsm hr0 hnd hv hw3 hb3 hi3 HRM HWH
  go_wp2_with fail
  rw [HW3.out]
  refine HWR3.out.mono ?_
  rintro e w4 ⟨rfl, r, h1, h2, h3, h4⟩
  have HST := Lib.hid (wstring w2.heap.size r w4 h1)
  have HCUT := Lib.hid h3; have HB4 := Lib.hid (low_trans HB3.out (by omega) h4)
  have HX4 := Lib.hid (h4.low.block w.heap.size (by omega) |>.trans HX3.out)
  have h34 := h4.le
  clear h1 h2 h3 h4 e0 e1 e2 e3 e4 e5 z0 z1 z2 z3 z4 z5
  go_wp2_with fail
  refine HST.out.mono ?_
  rintro e w5 ⟨rfl, hb5⟩
  have HRD := Lib.hid (p_program ⟨r.toArray⟩ w5)
  have h45 := hb5.size
  have HX5 := Lib.hid (show Blk w5 w.heap.size 26 (nB k a s n A la cA B lb cB) from (hb5.block w.heap.size (by omega)).trans HX4.out); have HB5 := Lib.hid (HB4.out.trans (hb5.mono (show w.heap.size ≤ w2.heap.size by omega)))
  clear hb5 HST HX4
  go_wp2_with fail
  refine HRD.out.mono ?_
  rintro e w6 (⟨k', a', sx, n', A', la', cA', B', lb', cB', x, t, rr, rfl, h1, h2, h3, hTx, hb6⟩ | ⟨a', er, rfl, hbad, hb6⟩)
  · have hiff := isT_ok (z := z) one_P h1 h2 h3
    have hx6 := HX5.out.below hb6 HX5.out.lt
    obtain ⟨⟨e0, e1, e2, e3, e4, e5⟩, z0, z1, z2, z3, z4, z5⟩ := Blk.c6 hx6
    have hxl6 := hx6.lt
    have HB6 := Lib.hid (HB5.out.trans (hb6.mono HB5.out.size))
    obtain ⟨w7, hw7⟩ : ∃ w7, w6.alloc (.cells (nB (k' : Int) (a' : Int) sx n' A' la' cA' B' lb' cB') 26) = w7 := ⟨_, rfl⟩
    have hb7 : Below w6.heap.size w6 w7 := by rw [← hw7]; exact (Below.refl _ _).alloc (Nat.le_refl _) _
    have HS := Lib.hid (psame (SizeOf.sizeOf (embz x) + 1) (embz x) z (Nat.lt_succ_self _) w7 (k' : Int) (a' : Int) sx n' A' la' cA' B' lb' cB' k a s n A la cA B lb cB (TIz.below hb7 (tIz_of hTx)) (HTZ.out w7 (HB6.out.trans (hb7.mono HB6.out.size))))
    have HW7 := Lib.hid hw7; have HB7 := Lib.hid (HB6.out.trans (hb7.mono HB6.out.size)); have HIFF := Lib.hid hiff
    obtain ⟨res, hres⟩ : ∃ res, sameB (embz x) z = res := ⟨_, rfl⟩
    rw [hres] at HS HIFF
    clear h1 h2 h3 hTx hb6 hx6 hiff hw7 hb7 hres
    go_wp2_with fail
    rw [HW7.out]
    refine (show Calls Tryz.prog 12 #[nzA (k' : Int) (a' : Int) sx n' A' la' cA' B' lb' cB', nzA k a s n A la cA B lb cB] w7 _ from HS.out).mono ?_
    rintro e w8 ⟨rfl, hb8⟩
    have HB8 := Lib.hid (HB7.out.trans (hb8.mono HB7.out.size))
    clear hb8
    cases res with
    | true =>
      have hend : (∃ r, (shP z → Cut [] (prT dec z) r) ∧ TdV ProgR r z (.returned (.tuple #[.string ⟨r.toArray⟩, .int .i64 0]))) := ⟨r, HCUT.out, .inl ⟨HSM.out, .inl ⟨HIFF.out.2 rfl, rfl⟩⟩⟩
      have hend2 : (∃ r', (shP z → Cut [] (prT dec z) r') ∧ TdV ProgR r' z (.returned (.tuple #[.string ⟨r.toArray⟩, .int .i64 0]))) := ⟨r, HCUT.out, .inl ⟨HSM.out, .inl ⟨HIFF.out.2 rfl, rfl⟩⟩⟩
      have HEND := Lib.hid hend2
      clear hend hend2
      go_wp2_with fail
      go_ret2
      exact ⟨HEND.out, HB8.out⟩
    | false =>
      have hend : (∃ r', (shP z → Cut [] (prT dec z) r') ∧ TdV ProgR r' z (.returned (.tuple #[.string ⟨#[]⟩, .int .i64 1]))) := ⟨r, HCUT.out, .inl ⟨HSM.out, .inr ⟨fun h => absurd (HIFF.out.1 h) (by decide), rfl⟩⟩⟩
      have HEND := Lib.hid hend
      clear hend
      go_wp2_with fail
      go_ret2
      exact ⟨HEND.out, HB8.out⟩
  · have hno := isT_bad (z := z) nobad_P nomore_P hbad
    have her := er_P hbad
    have hq2 : ((er : Int) != 0) = true := by simp; omega
    have HB6 := Lib.hid (HB5.out.trans (hb6.mono HB5.out.size))
    have hend : (∃ r', (shP z → Cut [] (prT dec z) r') ∧ TdV ProgR r' z (.returned (.tuple #[.string ⟨#[]⟩, .int .i64 1]))) := ⟨r, HCUT.out, .inl ⟨HSM.out, .inr ⟨hno, rfl⟩⟩⟩
    have HEND := Lib.hid hend
    have HB7 := Lib.hid (HB6.out.alloc HB6.out.size (.cells #[.int .i64 0, .string ⟨#[]⟩, .int .u32 0, .int .i64 0, .slice none 0 0, .slice none 0 0] 26))
    clear hend hno hbad hb6 her
    go_wp2_with fail
    go_ret2
    exact ⟨HEND.out, HB7.out⟩

set_option maxRecDepth 100000 in
set_option maxHeartbeats 2000000 in
theorem pExpr (z : Tz) (hok : okz z) (w : World) (hTB : TabP w) (k a : Int) (s : Bs) (n : Nat) (A : Option Addr) (la cA : Nat) (B : Option Addr) (lb cB : Nat) (hT : TIz w z (nzC k a s n A la cA B lb cB)) :
    Calls Tryz.prog 10 #[nzA k a s n A la cA B lb cB] w fun e w' => (∃ r, (shE z → Cut [] (exT dec z) r) ∧ TdV ExprR r z e) ∧ Below w.heap.size w w' := by
  obtain ⟨w1, hw1⟩ : ∃ w1, w.alloc (.cells (nB k a s n A la cA B lb cB) 26) = w1 := ⟨_, rfl⟩
  have hb1 : Below w.heap.size w w1 := by rw [← hw1]; exact (Below.refl _ _).alloc (Nat.le_refl _) _
  have HS := Lib.hid (toldE z w1 k a s n A la cA B lb cB (TIz.below hb1 hT) fun hls w2 bp hb2 h0 hi => exw fmtC (SizeOf.sizeOf z + 1) z (Nat.lt_succ_self _) hls hok w1 w2 bp [] k a s n A la cA B lb cB (TIz.below hb1 hT) (tab_below hTB hb1) hb2 h0 hi (by simp))
  have HW := Lib.hid hw1; have HB1 := Lib.hid hb1
  clear hT hTB hw1 hb1 hok
  go_enter Tryz.func10, Tryz.ntmps10
  go_wp2_with fail
  rw [HW.out]
  refine HS.out.mono ?_
  rintro e w2 ⟨⟨r, hc, ht⟩, hb2⟩
  have HB2 := Lib.hid (HB1.out.trans (hb2.mono HB1.out.size)); have HC := Lib.hid hc; have HT := Lib.hid ht
  have hv : ∃ u v, e = .returned (.tuple #[.string u, .int .i64 v]) := by
    rcases ht with ⟨_, ⟨_, h⟩ | ⟨_, h⟩⟩ | ⟨_, h⟩ <;> exact ⟨_, _, h⟩
  obtain ⟨u, v, rfl⟩ := hv
  clear hb2 hc ht
  go_wp2_with fail
  go_ret2
  exact ⟨⟨r, HC.out, HT.out⟩, HB2.out⟩
set_option maxRecDepth 100000 in
set_option maxHeartbeats 2000000 in
theorem pProgram (z : Tz) (hok : okz z) (w : World) (hTB : TabP w) (k a : Int) (s : Bs) (n : Nat) (A : Option Addr) (la cA : Nat) (B : Option Addr) (lb cB : Nat) (hT : TIc True w z (nzC k a s n A la cA B lb cB)) :
    Calls Tryz.prog 8 #[nzA k a s n A la cA B lb cB] w fun e w' => (∃ r, (shP z → Cut [] (prT dec z) r) ∧ TdV ProgR r z e) ∧ Below w.heap.size w w' := by
  obtain ⟨w1, hw1⟩ : ∃ w1, w.alloc (.cells (nB k a s n A la cA B lb cB) 26) = w1 := ⟨_, rfl⟩
  have hb1 : Below w.heap.size w w1 := by rw [← hw1]; exact (Below.refl _ _).alloc (Nat.le_refl _) _
  have HS := Lib.hid (toldP z w1 k a s n A la cA B lb cB (tIz_weak (TIz.below hb1 hT)) fun hls w2 bp hb2 h0 hi => by
    have hT1 := TIz.below hb1 hT
    obtain ⟨k1, a1, s1, n1, ps, l⟩ := z
    obtain ⟨rfl, rfl, rfl, rfl, rfl, rfl, hl, hp, hLB, css, hL, hS⟩ := tIz_parts hT1
    unfold okz at hok
    unfold ls at hls
    simp only [Bool.and_eq_true] at hls
    refine (programW (q := True) l hls.2 hok.2.2.2 w1 w2 bp [] k a s n A cA B ps.length cB css hL hS hl (tab_below hTB hb1) hb2 h0 hi (by simp)).mono fun e w' hw => hw.eq (fun hs => ?_) fun hs => rfl
    unfold shP at hs
    exact hs.2)
  have HW := Lib.hid hw1; have HB1 := Lib.hid hb1
  clear hT hTB hw1 hb1 hok
  go_enter Tryz.func8, Tryz.ntmps8
  go_wp2_with fail
  rw [HW.out]
  refine HS.out.mono ?_
  rintro e w2 ⟨⟨r, hc, ht⟩, hb2⟩
  have HB2 := Lib.hid (HB1.out.trans (hb2.mono HB1.out.size)); have HC := Lib.hid hc; have HT := Lib.hid ht
  have hv : ∃ u v, e = .returned (.tuple #[.string u, .int .i64 v]) := by
    rcases ht with ⟨_, ⟨_, h⟩ | ⟨_, h⟩⟩ | ⟨_, h⟩ <;> exact ⟨_, _, h⟩
  obtain ⟨u, v, rfl⟩ := hv
  clear hb2 hc ht
  go_wp2_with fail
  go_ret2
  exact ⟨⟨r, HC.out, HT.out⟩, HB2.out⟩
end Go.Proofs.YtokfmclbninkmaaGreatDoor.Wr
