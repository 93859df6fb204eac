/- DERIVED. The walk of the law on registers. By an AI agent. -/
import Derived.Test.YtckdffcfemekcaaDoorTpLaws
import Derived.Test.YtckdffcfemekcaaDoorTpReads
import Derived.Deep.RegionHeld3
namespace Go.Proofs.YtckdffcfemekcaaDoor
open Go.ChangeShapes Go.WideShapes Go.ChangeAt Go.RowKit Go.Sort ThRef Tp
set_option linter.unusedVariables false
theorem Tp.wrV_is (op d n m imm : Int) : ∃ x c, wrV op d n m imm = .tuple #[.int .i64 x, .bool c] := by
  unfold wrV
  split
  · exact ⟨_, _, rfl⟩
  · exact ⟨_, _, rfl⟩
theorem Tp.readsL_len (op d n m imm : Int) : (readsL op d n m imm).length < 1000000 := by
  unfold readsL
  split
  · have := fil_len (msk op d n m imm) 8; omega
  · simp
theorem Tp.same (p q : Option Addr) (cx cy : Nat) (xs : List Int) (w : World) (hl : xs.length < 1000000) (hx : Reads64 w p xs) (hy : Reads64 w q xs) :
    Calls Tryd.prog 17 #[.slice p xs.length cx, .slice q xs.length cy] w fun e w' => e = .returned (.bool true) ∧ ∃ m, w' = w.drewN m := by
  have h := ThRef.same p q cx cy xs xs w hl hl hx hy
  rw [decide_eq_true rfl] at h
  exact h
theorem Tp.reads_below {w w' : World} {p : Option Addr} {xs : List Int} (h : Reads64 w p xs) (hb : Below w.heap.size w w') : Reads64 w' p xs := by
  rcases h with h | ⟨g, o, h1, h2⟩
  · exact .inl h
  · exact .inr ⟨g, o, h1, fun i hi => by rw [hb.cell (World.block_lt_of_cell? w _ (h2 i hi))]; exact h2 i hi⟩
set_option maxRecDepth 100000 in
set_option maxHeartbeats 8000000 in
theorem thumbRegs.walk (op d n m imm : Int) (hw : (Lit.int .i64 op).wf = true ∧ (Lit.int .i64 d).wf = true ∧ (Lit.int .i64 n).wf = true ∧ (Lit.int .i64 m).wf = true ∧ (Lit.int .i64 imm).wf = true) (W : World) (hT : Tb W) :
    Calls Tryd.prog 5 #[ins op d n m imm] W fun e w' => e = .returned (.bool true) ∧ Below W.heap.size W w' := by
  clear hw
  have h1 := Tp.writes op d n m imm
  have h2 := ThRef.writes op d n m imm
  have h3 := Tp.reads op d n m imm
  have h4 := ThRef.reads op d n m imm
  have hlen := Tp.readsL_len op d n m imm
  obtain ⟨x, c, hwr⟩ := Tp.wrV_is op d n m imm
  rw [hwr] at h1 h2
  generalize readsL op d n m imm = L at h3 h4 hlen
  have h5 := fun p q cx cy w => Tp.same p q cx cy L w hlen
  have HT := Lib.hid hT; have H1 := Lib.hid h1; have H2 := Lib.hid h2; have H3 := Lib.hid h3; have H4 := Lib.hid h4; have H5 := Lib.hid h5
  clear hT h1 h2 h3 h4 h5 hwr hlen
  go_enter Tryd.func5, Tryd.ntmps5
  go_wp2_with fail
  refine (H1.out _ (HT.out.below ((Below.refl _ _).alloc (Nat.le_refl _) _))).mono ?_
  rintro e w1 ⟨rfl, hb1⟩
  obtain ⟨⟨q0, q1, q2, q3, q4⟩, hbw, hz⟩ := Tp.cells5 hb1
  have HB := Lib.hid hbw
  clear hb1 hbw
  go_wp2_with fail
  refine (H2.out _).mono ?_
  rintro e w2 ⟨rfl, hb2⟩
  have p0 := (hb2.cell (p := ⟨W.heap.size, 0, none⟩) hz).trans q0
  have p1 := (hb2.cell (p := ⟨W.heap.size, 1, none⟩) hz).trans q1
  have p2 := (hb2.cell (p := ⟨W.heap.size, 2, none⟩) hz).trans q2
  have p3 := (hb2.cell (p := ⟨W.heap.size, 3, none⟩) hz).trans q3
  have p4 := (hb2.cell (p := ⟨W.heap.size, 4, none⟩) hz).trans q4
  have hz2 : W.heap.size < w2.heap.size := Nat.lt_of_lt_of_le hz hb2.size
  have HB2 := Lib.hid (HB.out.trans (hb2.mono HB.out.size))
  clear q0 q1 q2 q3 q4 hb2 hz
  go_wp2_with fail
  go_region_held3 (fun w' => w'.cell? ⟨W.heap.size, 0, none⟩ = some (.int .i64 op) ∧ w'.cell? ⟨W.heap.size, 1, none⟩ = some (.int .i64 d) ∧ w'.cell? ⟨W.heap.size, 2, none⟩ = some (.int .i64 n) ∧ w'.cell? ⟨W.heap.size, 3, none⟩ = some (.int .i64 m) ∧ w'.cell? ⟨W.heap.size, 4, none⟩ = some (.int .i64 imm)) (first | exact ⟨p0, p1, p2, p3, p4⟩ | exact ⟨r0, r1, r2, r3, r4⟩ | exact ⟨s0, s1, s2, s3, s4⟩ | exact ⟨t0, t1, t2, t3, t4⟩ | go_keep)
    (first
      | (go_at_call 18; refine (H3.out _ (HT.out.below (below_drewN HB2.out 1))).mono ?_; rintro e w3 ⟨pa, ca, rfl, ha, hba⟩; have hz3 : W.heap.size < w3.heap.size := Nat.lt_of_lt_of_le hz2 hba.size; have r0 := (hba.cell (p := ⟨W.heap.size, 0, none⟩) hz2).trans p0; have r1 := (hba.cell (p := ⟨W.heap.size, 1, none⟩) hz2).trans p1; have r2 := (hba.cell (p := ⟨W.heap.size, 2, none⟩) hz2).trans p2; have r3 := (hba.cell (p := ⟨W.heap.size, 3, none⟩) hz2).trans p3; have r4 := (hba.cell (p := ⟨W.heap.size, 4, none⟩) hz2).trans p4; have HA := Lib.hid ha; have HB3 := Lib.hid ((below_drewN HB2.out 1).trans (hba.mono HB2.out.size)); clear ha hba)
      | (go_at_call 19; refine (H4.out _).mono ?_; rintro e w4 ⟨pc, cc, rfl, hc, hbc⟩; have s0 := (hbc.cell (p := ⟨W.heap.size, 0, none⟩) hz3).trans r0; have s1 := (hbc.cell (p := ⟨W.heap.size, 1, none⟩) hz3).trans r1; have s2 := (hbc.cell (p := ⟨W.heap.size, 2, none⟩) hz3).trans r2; have s3 := (hbc.cell (p := ⟨W.heap.size, 3, none⟩) hz3).trans r3; have s4 := (hbc.cell (p := ⟨W.heap.size, 4, none⟩) hz3).trans r4; have HC := Lib.hid hc; have HBC := Lib.hid hbc; have HB4 := Lib.hid (HB3.out.trans (hbc.mono HB3.out.size)); have hz4 : W.heap.size < w4.heap.size := Nat.lt_of_lt_of_le hz3 hbc.size; clear hc hbc)
      | (go_at_call 17; refine (H5.out _ _ _ _ _ (Tp.reads_below HA.out HBC.out) HC.out).mono ?_; rintro e w5 ⟨rfl, m5, rfl⟩)
      | (go_at_call 12; refine (Tp.lives _ (HT.out.below (below_drewN HB4.out m5))).mono ?_; rintro e w6 ⟨rfl, hb6⟩; have t0 := (hb6.cell (p := ⟨W.heap.size, 0, none⟩) hz4).trans s0; have t1 := (hb6.cell (p := ⟨W.heap.size, 1, none⟩) hz4).trans s1; have t2 := (hb6.cell (p := ⟨W.heap.size, 2, none⟩) hz4).trans s2; have t3 := (hb6.cell (p := ⟨W.heap.size, 3, none⟩) hz4).trans s3; have t4 := (hb6.cell (p := ⟨W.heap.size, 4, none⟩) hz4).trans s4; have HB6 := Lib.hid ((below_drewN HB4.out m5).trans (hb6.mono HB4.out.size)); clear hb6))
  go_wp2_with fail
  go_ret
  exact ⟨rfl, HB6.out⟩
end Go.Proofs.YtckdffcfemekcaaDoor
