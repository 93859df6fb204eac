/- DERIVED. PaDf in one text. By an AI agent. -/
import Derived.Test.YtkdpndoollbggaaDoorZ26
import Derived.Tactics
import Derived.Tactics2
import Derived.Defers
import Derived.Recover
/- DERIVED. What is deferred in package parse's read. By an AI agent. -/
namespace Go.Proofs.YtkdpndoollbggaaDoor.Pa
open Go Go.ChangeShapes Go.WideShapes Go.ChangeAt Go.RowKit Lx Args
set_option linter.unusedVariables false
set_option linter.unusedSimpArgs false
attribute [local go_sem] fTk0 fTk1 fTk2
theorem catch_idle (p q s : Addr) (w : World) :
    CallsD Tryd.prog 22 #[.pointer (some p), .pointer (some q), .pointer (some s)] .returning w fun e u' w' => e = .returned (.tuple #[]) ∧ u' = .returning ∧ w' = w := by
  have hnil : ∀ w : World, (binOp BinOp.neq 20 .nilIface .nilIface).run Tryd.prog w = .ok (.bool false) w := fun _ => by kernel_rfl
  refine callsD_of_wpS Tryd.func22 rfl fun c₀ cs hu => ?_
  apply wpS_seq
  apply wpS_region
  simp [wpOpsS, go_sem, recoverD, hu, Tryd.ntmps22, Exit.thenS]
  refine wpS_of_wp ?_
  go_wp2_with fail
  cases c₀
  simp_all [bodyPostS, results, Tryd.results22]
/-- The box of what was given up with. -/
def KW (g a er : Nat) (w : World) : Prop := w.cell? ⟨g, 0, none⟩ = some (.int .i64 (a : Int)) ∧ w.cell? ⟨g, 1, none⟩ = some (.int .i64 (er : Int))
theorem KW.of {g a er : Nat} {w : World} {t : TypeId} (h : Blk w g t #[.int .i64 (a : Int), .int .i64 (er : Int)]) : KW g a er w := ⟨h.cell 0, h.cell 1⟩
set_option maxRecDepth 100000 in
set_option maxHeartbeats 4000000 in
theorem catch_wrong (g a er : Nat) (w : World) {n0 n1 n2 n3 n4 n5 a0 q0 : Value} (hn : Blk w g 27 #[n0, n1, n2, n3, n4, n5]) (ha : Blk w (g + 1) 3 #[a0]) (he : Blk w (g + 2) 28 #[q0]) :
    CallsD Tryd.prog 22 #[.pointer (some ⟨g, 0, none⟩), .pointer (some ⟨g + 1, 0, none⟩), .pointer (some ⟨g + 2, 0, none⟩)] (.panicking [{ v := .iface 51 (.agg #[.int .i64 (a : Int), .int .i64 (er : Int)]), recovered := false }]) w fun e u' w' => e = .returned (.tuple #[]) ∧
      u' = .panicking [{ v := .iface 51 (.agg #[.int .i64 (a : Int), .int .i64 (er : Int)]), recovered := true }] ∧
      Blk w' g 27 #[.int .i64 0, .string ⟨#[]⟩, .int .u32 0, .int .i64 0, .slice none 0 0, .slice none 0 0] ∧ Blk w' (g + 1) 3 #[.int .i64 (a : Int)] ∧ Blk w' (g + 2) 28 #[.int .i64 (er : Int)] ∧ Upd (fun b => g ≤ b) w w' := by
  have hne : ∀ w : World, (binOp BinOp.neq 20 (.iface 51 (.agg #[.int .i64 (a : Int), .int .i64 (er : Int)])) .nilIface).run Tryd.prog w = .ok (.bool true) w := fun _ => by kernel_rfl
  have hta : ∀ w : World, (Instr.typeAssert (.iface 51 (.agg #[.int .i64 (a : Int), .int .i64 (er : Int)])) 20 51 false).run Tryd.prog w = .ok (.agg #[.int .i64 (a : Int), .int .i64 (er : Int)]) w := fun _ => by kernel_rfl
  refine callsD_of_wpS Tryd.func22 rfl fun c₀ cs hu => ?_
  apply wpS_seq
  apply wpS_region
  simp [wpOpsS, go_sem, recoverD, hu, Tryd.ntmps22, Exit.thenS]
  refine wpS_of_wp ?_
  simp only [Array.replicate_succ, Array.replicate_zero, List.push_toArray, List.setIfInBounds_toArray, List.set_cons_succ, List.set_cons_zero, List.append_toArray, List.cons_append, List.nil_append]
  have HNN := Lib.hid hn; have HAA := Lib.hid ha; have HEE := Lib.hid he
  clear hn ha he
  go_upto_region 3 with fail
  obtain ⟨w1, hw1⟩ : ∃ w1, w.alloc (.cells #[.int .i64 (a : Int), .int .i64 (er : Int)] 51) = w1 := ⟨_, rfl⟩
  have hb1 : Below w.heap.size w w1 := by rw [← hw1]; exact (Below.refl _ _).alloc (Nat.le_refl _) _
  have hbw : Blk w1 w.heap.size 51 #[.int .i64 (a : Int), .int .i64 (er : Int)] := by rw [← hw1]; exact Blk.new _ _ _
  have hg0 := HNN.out.lt
  have hg1 := HAA.out.lt
  have hg2 := HEE.out.lt
  have hN := (HNN.out.below hb1 hg0).drew
  have hA := (HAA.out.below hb1 hg1).drew
  have hE := (HEE.out.below hb1 hg2).drew
  have hZ0 : KW w.heap.size a er w1.drew := KW.of hbw.drew
  have HBW := Lib.hid hbw.drew
  have HU1 := Lib.hid (show Upd (fun b => g ≤ b) w w1.drew from (Upd.of_below hb1 _).drew)
  rw [hw1]
  clear hw1 hb1 hbw
  obtain ⟨w2, hw2⟩ : ∃ w2, w1.drew = w2 := ⟨_, rfl⟩
  refine HT.wp_region (Z := fun w' => KW w.heap.size a er w') (S := fun _ => True) (st := []) (by kernel_rfl) ?_
  rw [hw2] at hN hA hE hZ0 HBW HU1 ⊢
  clear hw2
  refine HT.takeP (i := 0) (v := ?_) rfl (by kernel_rfl) (by kernel_rfl) (by kernel_rfl) (by kernel_rfl) (fun _ _ _ h => h) (Or.inl ⟨by rfl, ?_⟩) hZ0 (fun _ => trivial) ?_
  rotate_left
  · (intro w hSw; obtain ⟨y0, y1⟩ := hSw; go_simp; try with_reducible rfl)
  (try simp only [Act.put, List.getElem_toArray, List.getElem_cons_succ, List.getElem_cons_zero, List.setIfInBounds_toArray, List.set_cons_zero, List.set_cons_succ])
  refine HT.takeP (i := 1) (v := ?_) rfl (by kernel_rfl) (by kernel_rfl) (by kernel_rfl) (by kernel_rfl) (fun _ _ _ h => h) (Or.inl ⟨by rfl, ?_⟩) hZ0 (fun _ => trivial) ?_
  rotate_left
  · (intro w hSw; obtain ⟨y0, y1⟩ := hSw; go_simp; try with_reducible rfl)
  (try simp only [Act.put, List.getElem_toArray, List.getElem_cons_succ, List.getElem_cons_zero, List.setIfInBounds_toArray, List.set_cons_zero, List.set_cons_succ])
  refine HT.takeP (i := 2) (v := ?_) rfl (by kernel_rfl) (by kernel_rfl) (by kernel_rfl) (by kernel_rfl) (fun _ _ _ h => h) (Or.inl ⟨by rfl, ?_⟩) hZ0 (fun _ => trivial) ?_
  rotate_left
  · (intro w hSw; obtain ⟨y0, y1⟩ := hSw; go_simp; try with_reducible rfl)
  (try simp only [Act.put, List.getElem_toArray, List.getElem_cons_succ, List.getElem_cons_zero, List.setIfInBounds_toArray, List.set_cons_zero, List.set_cons_succ])
  refine HT.takeP (i := 3) (v := ?_) rfl (by kernel_rfl) (by kernel_rfl) (by kernel_rfl) (by kernel_rfl) (fun _ _ _ h => h) (Or.inl ⟨by rfl, ?_⟩) hZ0 (fun _ => trivial) ?_
  rotate_left
  · (intro w hSw; obtain ⟨y0, y1⟩ := hSw; go_simp; try with_reducible rfl)
  (try simp only [Act.put, List.getElem_toArray, List.getElem_cons_succ, List.getElem_cons_zero, List.setIfInBounds_toArray, List.set_cons_zero, List.set_cons_succ])
  refine HT.takeP (i := 4) (v := ?_) rfl (by kernel_rfl) (by kernel_rfl) (by kernel_rfl) (by kernel_rfl) (fun _ _ _ h => h) (Or.inl ⟨by rfl, ?_⟩) hZ0 (fun _ => trivial) ?_
  rotate_left
  · (intro w hSw; obtain ⟨y0, y1⟩ := hSw; go_simp; try with_reducible rfl)
  (try simp only [Act.put, List.getElem_toArray, List.getElem_cons_succ, List.getElem_cons_zero, List.setIfInBounds_toArray, List.set_cons_zero, List.set_cons_succ])
  obtain ⟨⟨e0, e1, e2, e3, e4, e5⟩, z0, z1, z2, z3, z4, z5⟩ := Blk.c6 hN
  have c1 : w2.cell? ⟨g + 1, 0, none⟩ = some a0 := hA.cell 0
  have c2 : w2.cell? ⟨g + 2, 0, none⟩ = some q0 := hE.cell 0
  have f1 := hA.frozen 0
  have hgw : w.heap.size ≠ g := by omega
  have hgw1 : w.heap.size ≠ g + 1 := by omega
  have hgw2 : w.heap.size ≠ g + 2 := by omega
  have f2 := hE.frozen 0
  refine HT.one (i := 5) (by kernel_rfl) rfl (fun K hK => ?_)
  go_simp
  refine hK.out _ _ (KW.of (put6_far HBW.out hgw _ _ _ _ _ _)) trivial ?_
  clear hK K
  (try simp only [Act.put, List.getElem_toArray, List.getElem_cons_succ, List.getElem_cons_zero, List.setIfInBounds_toArray, List.set_cons_zero, List.set_cons_succ])
  refine HT.one (i := 6) (by kernel_rfl) rfl (fun K hK => ?_)
  go_simp
  refine hK.out _ _ (KW.of ((put6_far HBW.out hgw _ _ _ _ _ _).far (p := ⟨g + 1, 0, none⟩) hgw1 _)) trivial ?_
  clear hK K
  (try simp only [Act.put, List.getElem_toArray, List.getElem_cons_succ, List.getElem_cons_zero, List.setIfInBounds_toArray, List.set_cons_zero, List.set_cons_succ])
  refine HT.one (i := 7) (by kernel_rfl) rfl (fun K hK => ?_)
  go_simp
  refine hK.out _ _ (KW.of (((put6_far HBW.out hgw _ _ _ _ _ _).far (p := ⟨g + 1, 0, none⟩) hgw1 _).far (p := ⟨g + 2, 0, none⟩) hgw2 _)) trivial ?_
  clear hK K
  refine HT.done (by kernel_rfl) ?_
  (try simp only [Act.put, List.getElem_toArray, List.getElem_cons_succ, List.getElem_cons_zero, List.setIfInBounds_toArray, List.set_cons_zero, List.set_cons_succ])
  have hg01 : g ≠ g + 1 := by omega
  have hg02 : g ≠ g + 2 := by omega
  have hg12 : g + 1 ≠ g + 2 := by omega
  have hNN := ((Blk.put6 hN (.int .i64 0) (.string ⟨#[]⟩) (.int .u32 0) (.int .i64 0) (.slice none 0 0) (.slice none 0 0)).far (p := ⟨g + 1, 0, none⟩) hg01 (.int .i64 (a : Int))).far (p := ⟨g + 2, 0, none⟩) hg02 (.int .i64 (er : Int))
  have hAA : Blk _ (g + 1) 3 #[.int .i64 (a : Int)] := ((put6_far hA (Ne.symm hg01) (.int .i64 0) (.string ⟨#[]⟩) (.int .u32 0) (.int .i64 0) (.slice none 0 0) (.slice none 0 0)).set 0 (.int .i64 (a : Int))).far (p := ⟨g + 2, 0, none⟩) hg12 (.int .i64 (er : Int))
  have hEE : Blk _ (g + 2) 28 #[.int .i64 (er : Int)] := ((put6_far hE (Ne.symm hg02) (.int .i64 0) (.string ⟨#[]⟩) (.int .u32 0) (.int .i64 0) (.slice none 0 0) (.slice none 0 0)).far (p := ⟨g + 1, 0, none⟩) (Ne.symm hg12) (.int .i64 (a : Int))).set 0 (.int .i64 (er : Int))
  have hUU := ((put6_upd HU1.out (fun _ => Nat.le_refl g) (.int .i64 0) (.string ⟨#[]⟩) (.int .u32 0) (.int .i64 0) (.slice none 0 0) (.slice none 0 0)).setCell (p := ⟨g + 1, 0, none⟩) (fun _ => by show g ≤ g + 1; omega) (.int .i64 (a : Int))).setCell (p := ⟨g + 2, 0, none⟩) (fun _ => by show g ≤ g + 2; omega) (.int .i64 (er : Int))
  exact ⟨rfl, _, rfl, _, results_none rfl _ _ _, rfl, rfl, hNN, hAA, hEE, hUU⟩
end Go.Proofs.YtkdpndoollbggaaDoor.Pa
