/- DERIVED. The walks of the laws on halfwords: each returns true and writes nothing that was there. By an AI agent. -/
import Derived.Test.YtckdffcfemekcaaDoorTpBack
import Derived.Test.YtckdffcfemekcaaDoorInts5
namespace Go.Proofs.YtckdffcfemekcaaDoor
open Go.ChangeShapes Go.WideShapes Go.ChangeAt Go.RowKit Go.Sort ThRef Tp
set_option linter.unusedVariables false
theorem Tp.of_laid' {W : World} (h : laidMetH Tryd.prog [("bauta/thumb.fields", Rows.laid_bauta_thumb_fields), ("bauta/thumb.shapes", Rows.laid_bauta_thumb_shapes)] W) : Tb W := Tp.of_laid h
set_option maxHeartbeats 1000000 in
theorem Tp.lives (w : World) (hT : Tb w) : Calls Tryd.prog 12 #[] w fun e w' => e = .returned (.bool true) ∧ Below w.heap.size w w' := by
  have hp := fun W h => putP 0 1 0 0 5 W h
  have e1 : putV 0 1 0 0 5 = .tuple #[.int .u16 8453, .int .i64 0] := by
    have c : canB 0 1 0 0 5 = true := by decide +kernel
    have r : putR 0 1 0 0 5 = 8453 := by decide +kernel
    unfold putV
    rw [c]
    show Value.tuple #[.int .u16 ((putR 0 1 0 0 5 : Nat) : Int), .int .i64 0] = _
    rw [r]; rfl
  have hc := fun W h => Tp.can 19 0 0 0 0 W h
  have e2 : canB 19 0 0 0 0 = true := by decide +kernel
  rw [e1] at hp
  rw [e2] at hc
  have HP := Lib.hid hp; have HC := Lib.hid hc; have HT := Lib.hid hT
  clear hp hc e1 e2 hT
  go_enter Tryd.func12, Tryd.ntmps12
  go_wp2_with fail
  refine (HP.out _ HT.out).mono ?_
  rintro e w1 ⟨rfl, hb1⟩
  have HB := Lib.hid hb1
  clear hb1
  go_wp2_with fail
  refine (HC.out _ (HT.out.below HB.out)).mono ?_
  rintro e w2 ⟨rfl, hb2⟩
  go_wp2_with fail
  go_ret
  exact ⟨rfl, HB.out.trans (hb2.mono HB.out.size)⟩
/-- An instruction's block in a world that came behind. -/
theorem Tp.cells5 {op d n m imm : Int} {w w1 : World} (hb : Below (w.alloc (.cells #[.int .i64 op, .int .i64 d, .int .i64 n, .int .i64 m, .int .i64 imm] 23)).heap.size (w.alloc (.cells #[.int .i64 op, .int .i64 d, .int .i64 n, .int .i64 m, .int .i64 imm] 23)) w1) :
    (w1.cell? ⟨w.heap.size, 0, none⟩ = some (.int .i64 op) ∧ w1.cell? ⟨w.heap.size, 1, none⟩ = some (.int .i64 d) ∧ w1.cell? ⟨w.heap.size, 2, none⟩ = some (.int .i64 n) ∧ w1.cell? ⟨w.heap.size, 3, none⟩ = some (.int .i64 m) ∧ w1.cell? ⟨w.heap.size, 4, none⟩ = some (.int .i64 imm)) ∧ Below w.heap.size w w1 ∧ w.heap.size < w1.heap.size := by
  have h : ∀ j, w1.cell? ⟨w.heap.size, j, none⟩ = _ := fun j => (hb.cell (p := ⟨w.heap.size, j, none⟩) (by simp)).trans (World.cell?_alloc_at _ _ _ _ rfl)
  have hz := hb.size
  simp at hz
  exact ⟨⟨h 0, h 1, h 2, h 3, h 4⟩, ((Below.refl _ _).alloc (Nat.le_refl _) _).trans (hb.mono (by simp)), hz⟩
theorem Tp.resV_eq (k e : Nat) (s : Nums) : resV (k, s, e) = .tuple #[.agg #[.int .i64 k, .int .i64 s.d, .int .i64 s.n, .int .i64 s.m, .int .i64 s.i], .int .i64 e] := rfl
set_option maxRecDepth 100000 in
set_option maxHeartbeats 4000000 in
theorem thumbPuts.walk (op d n m imm : Int) (hw : (Lit.int .i64 op).wf = true ∧ (Lit.int .i64 d).wf = true ∧ (Lit.int .i64 n).wf = true ∧ (Lit.int .i64 m).wf = true ∧ (Lit.int .i64 imm).wf = true) (W : World) (hT : Tb W) :
    Calls Tryd.prog 3 #[ins op d n m imm] W fun e w' => e = .returned (.bool true) ∧ Below W.heap.size W w' := by
  clear hw
  have HT := Lib.hid hT
  clear hT
  by_cases hc : canB op d n m imm = true
  · have ho := can_op op d n m imm hc
    obtain ⟨k, rfl⟩ := Int.eq_ofNat_of_zero_le ho.1
    have hk : k < 21 := by omega
    have hv : putV k d n m imm = .tuple #[.int .u16 (putI k d n m imm : Nat), .int .i64 0] := by unfold putV; rw [hc]; rfl
    have hpp := putP k d n m imm
    have hrp := ThRef.put k d n m imm
    have hcp := Tp.can k d n m imm
    have hrc := ThRef.can k d n m imm
    have htk := takeP (putI k d n m imm) (head_put k hk d n m imm hc).2
    rw [take_put k hk d n m imm hc, Tp.resV_eq] at htk
    rw [hv] at hpp hrp
    rw [hc] at hcp hrc
    generalize putI k d n m imm = x at hpp hrp htk
    have HPP := Lib.hid hpp; have HRP := Lib.hid hrp; have HCP := Lib.hid hcp; have HRC := Lib.hid hrc; have HTK := Lib.hid htk
    clear hpp hrp hcp hrc htk hv hc ho
    go_enter Tryd.func3, Tryd.ntmps3
    go_wp2_with fail
    refine (HPP.out _ (HT.out.below ((Below.refl _ _).alloc (Nat.le_refl _) _))).mono ?_
    rintro e w1 ⟨rfl, hb1⟩
    obtain ⟨⟨q0, q1, q2, q3, q4⟩, hbw, hz⟩ := Tp.cells5 hb1
    have HB := Lib.hid hbw
    clear hb1 hbw
    go_wp2_with fail
    refine (HRP.out _).mono ?_
    rintro e w2 ⟨rfl, hb2⟩
    have p0 := (hb2.cell (p := ⟨W.heap.size, 0, none⟩) hz).trans q0
    have p1 := (hb2.cell (p := ⟨W.heap.size, 1, none⟩) hz).trans q1
    have p2 := (hb2.cell (p := ⟨W.heap.size, 2, none⟩) hz).trans q2
    have p3 := (hb2.cell (p := ⟨W.heap.size, 3, none⟩) hz).trans q3
    have p4 := (hb2.cell (p := ⟨W.heap.size, 4, none⟩) hz).trans q4
    have hz2 : W.heap.size < w2.heap.size := Nat.lt_of_lt_of_le hz hb2.size
    have HB2 := Lib.hid (HB.out.trans (hb2.mono HB.out.size))
    have r0 := fun d os => cell_regrown p0 d os
    have r1 := fun d os => cell_regrown p1 d os
    have r2 := fun d os => cell_regrown p2 d os
    have r3 := fun d os => cell_regrown p3 d os
    have r4 := fun d os => cell_regrown p4 d os
    clear q0 q1 q2 q3 q4 hb2 hz
    go_wp2_with fail
    refine wp_region_quiet_below (by kernel_rfl) (by kernel_rfl) ?_
    repeat (go_big_quiet_step ((first | (go_at_call 10; exact Calls.regrown_of (HCP.out _ (HT.out.below (HB2.out.trans ((below_regrown _ _ _).mono HB2.out.size))))) | (go_at_call 11; exact Calls.regrown_of (HRC.out _)))))
    refine wpQuiet_nil ?_
    intro _ hw'
    obtain ⟨⟨dq, osq⟩, hw''⟩ := hw'
    subst hw''
    have s0 := r0 dq osq; have s1 := r1 dq osq; have s2 := r2 dq osq; have s3 := r3 dq osq; have s4 := r4 dq osq
    have HB3 := Lib.hid (HB2.out.trans ((below_regrown _ dq osq).mono HB2.out.size))
    have hz3 : W.heap.size < (grow (redrawn w2 dq) osq).heap.size := Nat.lt_of_lt_of_le hz2 (below_regrown _ dq osq).size
    clear r0 r1 r2 r3 r4 p0 p1 p2 p3 p4 hz2
    generalize grow (redrawn w2 dq) osq = w3 at *
    go_wp2_with fail
    refine (HTK.out _ (HT.out.below HB3.out)).mono ?_
    rintro e w4 ⟨rfl, hb4⟩
    have t0 := (hb4.cell (p := ⟨W.heap.size, 0, none⟩) hz3).trans s0
    have t1 := (hb4.cell (p := ⟨W.heap.size, 1, none⟩) hz3).trans s1
    have t2 := (hb4.cell (p := ⟨W.heap.size, 2, none⟩) hz3).trans s2
    have t3 := (hb4.cell (p := ⟨W.heap.size, 3, none⟩) hz3).trans s3
    have t4 := (hb4.cell (p := ⟨W.heap.size, 4, none⟩) hz3).trans s4
    have hz4 : W.heap.size < w4.heap.size := Nat.lt_of_lt_of_le hz3 hb4.size
    have HB4 := Lib.hid (HB3.out.trans (hb4.mono HB3.out.size))
    clear s0 s1 s2 s3 s4 hz3 hb4
    go_wp2_with fail
    refine (Tp.lives _ (HT.out.below (HB4.out.alloc HB4.out.size _))).mono ?_
    rintro e w5 ⟨rfl, hb5⟩
    go_wp2_with fail
    go_ret
    exact ⟨rfl, (HB4.out.alloc HB4.out.size _).trans (hb5.mono (by have := HB4.out.size; simp; omega))⟩
  · have hc2 : canB op d n m imm = false := by simpa using hc
    have hv : putV op d n m imm = .tuple #[.int .u16 0, .int .i64 1] := by unfold putV; rw [hc2]; rfl
    have hpp := putP op d n m imm
    have hrp := ThRef.put op d n m imm
    have hcp := Tp.can op d n m imm
    have hrc := ThRef.can op d n m imm
    rw [hv] at hpp hrp
    rw [hc2] at hcp hrc
    have HPP := Lib.hid hpp; have HRP := Lib.hid hrp; have HCP := Lib.hid hcp; have HRC := Lib.hid hrc
    clear hpp hrp hcp hrc hv hc hc2
    go_enter Tryd.func3, Tryd.ntmps3
    go_wp2_with fail
    refine (HPP.out _ (HT.out.below ((Below.refl _ _).alloc (Nat.le_refl _) _))).mono ?_
    rintro e w1 ⟨rfl, hb1⟩
    obtain ⟨⟨q0, q1, q2, q3, q4⟩, hbw, hz⟩ := Tp.cells5 hb1
    have HB := Lib.hid hbw
    clear hb1 hbw
    go_wp2_with fail
    refine (HRP.out _).mono ?_
    rintro e w2 ⟨rfl, hb2⟩
    have p0 := (hb2.cell (p := ⟨W.heap.size, 0, none⟩) hz).trans q0
    have p1 := (hb2.cell (p := ⟨W.heap.size, 1, none⟩) hz).trans q1
    have p2 := (hb2.cell (p := ⟨W.heap.size, 2, none⟩) hz).trans q2
    have p3 := (hb2.cell (p := ⟨W.heap.size, 3, none⟩) hz).trans q3
    have p4 := (hb2.cell (p := ⟨W.heap.size, 4, none⟩) hz).trans q4
    have HB2 := Lib.hid (HB.out.trans (hb2.mono HB.out.size))
    have r0 := fun d os => cell_regrown p0 d os
    have r1 := fun d os => cell_regrown p1 d os
    have r2 := fun d os => cell_regrown p2 d os
    have r3 := fun d os => cell_regrown p3 d os
    have r4 := fun d os => cell_regrown p4 d os
    clear q0 q1 q2 q3 q4 hb2 hz
    go_wp2_with fail
    refine wp_region_quiet_below (by kernel_rfl) (by kernel_rfl) ?_
    repeat (go_big_quiet_step ((first | (go_at_call 10; exact Calls.regrown_of (HCP.out _ (HT.out.below (HB2.out.trans ((below_regrown _ _ _).mono HB2.out.size))))) | (go_at_call 11; exact Calls.regrown_of (HRC.out _)))))
    refine wpQuiet_nil ?_
    intro _ hw'
    obtain ⟨⟨dq, osq⟩, hw''⟩ := hw'
    subst hw''
    have HB3 := Lib.hid (HB2.out.trans ((below_regrown _ dq osq).mono HB2.out.size))
    clear r0 r1 r2 r3 r4 p0 p1 p2 p3 p4
    generalize grow (redrawn w2 dq) osq = w3 at *
    go_wp2_with fail
    refine (Tp.lives _ (HT.out.below HB3.out)).mono ?_
    rintro e w5 ⟨rfl, hb5⟩
    go_wp2_with fail
    go_ret
    exact ⟨rfl, HB3.out.trans (hb5.mono HB3.out.size)⟩
end Go.Proofs.YtckdffcfemekcaaDoor
