/- DERIVED. CoDo in one text. By an AI agent. -/
import Derived.Test.YtkafmpdjpjgkgaaDoorZ12
import Derived.Test.YtkafmpdjpjgkgaaDoorZ13
import Derived.Test.YtkafmpdjpjgkgaaDoorZ15
import Derived.Test.YtkafmpdjpjgkgaaDoorZ17
/- DERIVED. The contract of the program's do. By an AI agent. -/
namespace Go.Proofs.YtkafmpdjpjgkgaaDoor.Co
open Go.ChangeShapes Go.WideShapes Go.ChangeAt Go.RowKit WMath Word Ref Args Mm
set_option linter.unusedVariables false
set_option linter.unusedSimpArgs false
/-- What lies behind the heads of do. -/
structure Dn (w : World) (op D N M : Nat) (i : Int) (s nx : S) (W : World) : Prop where
  b0 : Blk W w.heap.size 58 (iC op D N M i)
  b1 : Blk W (w.heap.size + 1) 51 (sC s)
  b2 : Blk W (w.heap.size + 1 + 1) 51 (sC zS)
  b3 : Blk W (w.heap.size + 1 + 1 + 1) 51 (sC nx)
  size : w.heap.size + 4 ≤ W.heap.size
  low : Below w.heap.size w W
section
variable {w W W' : World} {op D N M : Nat} {i : Int} {s nx : S}
theorem Dn.below (h : Dn w op D N M i s nx W) (hb : Below W.heap.size W W') : Dn w op D N M i s nx W' :=
  ⟨h.b0.below hb h.b0.lt, h.b1.below hb h.b1.lt, h.b2.below hb h.b2.lt, h.b3.below hb h.b3.lt, Nat.le_trans h.size hb.size, h.low.trans (hb.mono h.low.size)⟩
theorem Dn.next (h : Dn w op D N M i s nx W) (nx' : S) (hb : Blk W' (w.heap.size + 1 + 1 + 1) 51 (sC nx')) (hu : Upd (· = w.heap.size + 1 + 1 + 1) W W') : Dn w op D N M i s nx' W' :=
  ⟨h.b0.upd hu (by omega), h.b1.upd hu (by omega), h.b2.upd hu (by omega), hb, Nat.le_trans h.size hu.size, upd_low h.low hu (by omega)⟩
theorem Dn.drewN (h : Dn w op D N M i s nx W) (n : Nat) : Dn w op D N M i s nx (W.drewN n) := ⟨h.b0, h.b1, h.b2, h.b3, h.size, below_drewN h.low n⟩
theorem Dn.drew (h : Dn w op D N M i s nx W) : Dn w op D N M i s nx W.drew := ⟨h.b0, h.b1, h.b2, h.b3, h.size, h.low.drew⟩
end
theorem dn_new (w : World) (op D N M : Nat) (i : Int) (s : S) : Dn w op D N M i s s ((((w.alloc (.cells (iC op D N M i) 58)).alloc (.cells (sC s) 51)).alloc (.cells (sC zS) 51)).alloc (.cells (sC s) 51)) := by
  have h0 := Blk.new w 58 (iC op D N M i)
  have h1 := Blk.new (w.alloc (.cells (iC op D N M i) 58)) 51 (sC s)
  have h2 := Blk.new ((w.alloc (.cells (iC op D N M i) 58)).alloc (.cells (sC s) 51)) 51 (sC zS)
  have h3 := Blk.new (((w.alloc (.cells (iC op D N M i) 58)).alloc (.cells (sC s) 51)).alloc (.cells (sC zS) 51)) 51 (sC s)
  simp only [World.size_alloc] at h1 h2 h3
  exact ⟨((h0.alloc _).alloc _).alloc _, (h1.alloc _).alloc _, h2.alloc _, h3, by simp, (((((Below.refl _ _).alloc (Nat.le_refl _) _).alloc (by simp) _).alloc (by simp; omega) _).alloc (by simp; omega) _)⟩
/-- The state behind an instruction that reckons. -/
def doCS (op D N M : Nat) (imm : BitVec 32) (s : S) : S :=
  if ThRef.setsB op imm.toNat = true then (((s.to (nextV op D (BitVec.ofInt 32 imm.toNat) s)).fl (cmp3 op D N M imm s).w).cv (cmp3 op D N M imm s).c (cmp3 op D N M imm s).v).up D (cmp3 op D N M imm s).w
  else ((s.to (nextV op D (BitVec.ofInt 32 imm.toNat) s)).fl (cmp3 op D N M imm s).w).cv (cmp3 op D N M imm s).c (cmp3 op D N M imm s).v
/-- The cells that are read behind the heads. -/
structure Dc (w : World) (op D N M : Nat) (i : Int) (s : S) (W : World) : Prop where
  i : W.cell? ⟨w.heap.size, 0, none⟩ = some (.int .i64 op) ∧ W.cell? ⟨w.heap.size, 1, none⟩ = some (.int .i64 D) ∧ W.cell? ⟨w.heap.size, 2, none⟩ = some (.int .i64 N) ∧ W.cell? ⟨w.heap.size, 3, none⟩ = some (.int .i64 M) ∧ W.cell? ⟨w.heap.size, 4, none⟩ = some (.int .i64 i)
  s : W.cell? ⟨w.heap.size + 1, 0, none⟩ = some (u (s.r 0)) ∧ W.cell? ⟨w.heap.size + 1, 1, none⟩ = some (u (s.r 1)) ∧ W.cell? ⟨w.heap.size + 1, 2, none⟩ = some (u (s.r 2)) ∧ W.cell? ⟨w.heap.size + 1, 3, none⟩ = some (u (s.r 3)) ∧ W.cell? ⟨w.heap.size + 1, 4, none⟩ = some (u (s.r 4)) ∧ W.cell? ⟨w.heap.size + 1, 5, none⟩ = some (u (s.r 5)) ∧ W.cell? ⟨w.heap.size + 1, 6, none⟩ = some (u (s.r 6)) ∧ W.cell? ⟨w.heap.size + 1, 7, none⟩ = some (u (s.r 7)) ∧ W.cell? ⟨w.heap.size + 1, 8, none⟩ = some (u s.pc) ∧ W.cell? ⟨w.heap.size + 1, 9, none⟩ = some (.bool s.n) ∧ W.cell? ⟨w.heap.size + 1, 10, none⟩ = some (.bool s.z) ∧ W.cell? ⟨w.heap.size + 1, 11, none⟩ = some (.bool s.c) ∧ W.cell? ⟨w.heap.size + 1, 12, none⟩ = some (.bool s.v)
theorem Dn.cells {w W : World} {op D N M : Nat} {i : Int} {s nx : S} (h : Dn w op D N M i s nx W) : Dc w op D N M i s W := ⟨⟨h.b0.cell 0, h.b0.cell 1, h.b0.cell 2, h.b0.cell 3, h.b0.cell 4⟩, Blk.cells13 h.b1⟩
set_option maxRecDepth 100000 in
set_option maxHeartbeats 2000000 in
theorem doCt (op D N M : Nat) (ho : op < 12) (hD : D < 8) (hN : N < 8) (hM : M < 8) (imm : BitVec 32) (hi : imm.toNat < 256) (hi16 : op = 11 → imm.toNat < 16) (hcan : ThRef.canB op D N M imm.toNat = true) (s : S) (r : Nat) (w : World) (hT : Tp.Tb w) (hs : ThRef.setsB op imm.toNat = true) :
    Calls Tryd.prog 61 #[.agg (iC op D N M imm.toNat), sv s, ptr r] w fun e w' => e = .returned (.tuple #[sv (doCS op D N M imm s), .int .i64 0]) ∧ Below w.heap.size w w' := by
  have hW := fun W h => Tp.writes op D N M imm.toNat W h
  have hwr : ThRef.wrV op D N M imm.toNat = .tuple #[.int .i64 D, .bool true] := by unfold ThRef.wrV; rw [hcan, hs]; rfl
  rw [hwr] at hW
  have HW := Lib.hid hW
  clear hW hwr hcan
  have hdo : doCS op D N M imm s = (((s.to (nextV op D (BitVec.ofInt 32 imm.toNat) s)).fl (cmp3 op D N M imm s).w).cv (cmp3 op D N M imm s).c (cmp3 op D N M imm s).v).up D (cmp3 op D N M imm s).w := by unfold doCS; rw [hs]; rfl
  rw [hdo]
  clear hdo hs
  have hD2 : (D : Int) < 8 := by omega
  have hF := fun W => following op D N M imm.toNat s W
  have hC := fun W => ccmp op D N M ho hD hN hM imm hi hi16 s W
  have e17 : ((op : Int) == 17) = false := by simp; omega
  have e18 : ((op : Int) == 18) = false := by simp; omega
  have e19 : ((op : Int) == 19) = false := by simp; omega
  have e12 : ((op : Int) == 12) = false := by simp; omega
  have e14 : ((op : Int) == 14) = false := by simp; omega
  have e16 : ((op : Int) == 16) = false := by simp; omega
  have e13 : ((op : Int) == 13) = false := by simp; omega
  have e15 : ((op : Int) == 15) = false := by simp; omega
  generalize nextV op D (BitVec.ofInt 32 imm.toNat) s = np at *
  generalize cmp3 op D N M imm s = x at *
  have HF := Lib.hid hF; have HC := Lib.hid hC; have HT := Lib.hid hT
  clear hF hC hT
  go_enter Tryd.func61, Tryd.ntmps61
  go_wp2_with fail
  refine (HF.out _).mono ?_
  rintro e w1 ⟨rfl, hb⟩
  have HN := Lib.hid ((dn_new w op D N M imm.toNat s).below hb)
  clear hb HF
  obtain ⟨⟨i0, i1, i2, i3, i4⟩, s0, s1, s2, s3, s4, s5, s6, s7, s8, s9, s10, s11, s12⟩ := HN.out.cells
  have n8 : w1.cell? ⟨w.heap.size + 1 + 1 + 1, 8, none⟩ = some (u s.pc) := HN.out.b3.cell 8
  have f8 : w1.frozen? ⟨w.heap.size + 1 + 1 + 1, 8, none⟩ = false := HN.out.b3.frozen 8
  go_wp2_with fail
  refine (HC.out _).mono ?_
  rintro e w2 ⟨rfl, hb⟩
  have HN2 := Lib.hid ((HN.out.next (s.to np) (blk_one HN.out.b3 8 (u np) rfl) (upd_set _ _ _ _ (Upd.refl _ _))).below hb)
  clear hb HC i0 i1 i2 i3 i4 s0 s1 s2 s3 s4 s5 s6 s7 s8 s9 s10 s11 s12 n8 f8
  have hfl := fun W => flags (s.to np) x.w W
  obtain ⟨s1, hs1⟩ : ∃ s1, s.to np = s1 := ⟨_, rfl⟩
  obtain ⟨s2, hs2⟩ : ∃ s2, s1.fl x.w = s2 := ⟨_, rfl⟩
  rw [hs1] at HN2 hfl
  rw [hs2] at hfl
  have HS1 := Lib.hid hs1; have HS2 := Lib.hid hs2
  clear hs1 hs2
  have HFL := Lib.hid hfl
  clear hfl
  obtain ⟨n0, n1, n2, n3, n4, n5, n6, n7, n8, n9, n10, n11, n12⟩ := Blk.cells13 HN2.out.b3
  have hsz := HN2.out.size
  have hlt : w.heap.size + 1 + 1 + 1 < w2.heap.size := HN2.out.b3.lt
  go_wp2_with fail
  refine (HFL.out _).mono ?_
  rintro e w3 ⟨rfl, hb⟩
  have HN3 := Lib.hid ((HN2.out.below ((Below.refl _ _).alloc (Nat.le_refl _) (.cells #[.bool x.c, .bool x.v] 128))).below hb)
  have HG := Lib.hid ((Blk.new w2 128 #[.bool x.c, .bool x.v]).below hb (by simp))
  generalize w2.heap.size = g at *
  clear hb HN2 HFL n0 n1 n2 n3 n4 n5 n6 n7 n8 n9 n10 n11 n12
  obtain ⟨n0, n1, n2, n3, n4, n5, n6, n7, n8, n9, n10, n11, n12⟩ := Blk.cells13 HN3.out.b3
  obtain ⟨f0, f1, f2, f3, f4, f5, f6, f7, f8, f9, f10, f11, f12⟩ := Blk.frozen13 HN3.out.b3
  go_wp2_with fail
  clear n0 n1 n2 n3 n4 n5 n6 n7 n8 n9 n10 n11 n12 f0 f1 f2 f3 f4 f5 f6 f7 f8 f9 f10 f11 f12
  obtain ⟨hB, hU⟩ := blk13 HN3.out.b3 s2
  have HN4 := Lib.hid (HN3.out.next s2 hB hU)
  have HG4 := Lib.hid (HG.out.upd hU (by omega))
  obtain ⟨w4, hw4⟩ : ∃ w4, put13 w3 (w.heap.size + 1 + 1 + 1) s2 = w4 := ⟨_, rfl⟩
  rw [hw4] at HN4 HG4
  simp only [put13] at hw4
  rw [hw4]
  clear hw4 hB hU HN3 HG
  have g0 : w4.cell? ⟨g, 0, none⟩ = some (.bool x.c) := HG4.out.cell 0
  have g1 : w4.cell? ⟨g, 1, none⟩ = some (.bool x.v) := HG4.out.cell 1
  have n11 : w4.cell? ⟨w.heap.size + 1 + 1 + 1, 11, none⟩ = some (.bool s2.c) := HN4.out.b3.cell 11
  have n12 : w4.cell? ⟨w.heap.size + 1 + 1 + 1, 12, none⟩ = some (.bool s2.v) := HN4.out.b3.cell 12
  have f11 := HN4.out.b3.frozen 11
  have f12 := HN4.out.b3.frozen 12
  go_region
  have HN5 := Lib.hid ((HN4.out.next (s2.cv x.c x.v) (blk_one (blk_one (cs' := sC { s2 with c := x.c }) HN4.out.b3 11 (.bool x.c) rfl) 12 (.bool x.v) rfl) (upd_set _ _ _ _ (upd_set _ _ _ _ (Upd.refl _ _)))).drew)
  clear g0 g1 n11 n12 f11 f12 HN4 HG4
  obtain ⟨s3, hs3⟩ : ∃ s3, s2.cv x.c x.v = s3 := ⟨_, rfl⟩
  rw [hs3] at HN5
  have HS3 := Lib.hid hs3
  clear hs3
  generalize ((w4.setCell ⟨w.heap.size + 1 + 1 + 1, 11, none⟩ (.bool x.c)).setCell ⟨w.heap.size + 1 + 1 + 1, 12, none⟩ (.bool x.v)).drew = w5 at *
  obtain ⟨⟨i0, i1, i2, i3, i4⟩, _⟩ := HN5.out.cells
  go_wp2_with fail
  refine (HW.out _ (HT.out.below HN5.out.low)).mono ?_
  rintro e w6 ⟨rfl, hb⟩
  have HN6 := Lib.hid (HN5.out.below hb)
  clear hb HN5 i0 i1 i2 i3 i4
  obtain ⟨n0, n1, n2, n3, n4, n5, n6, n7, n8, n9, n10, n11, n12⟩ := Blk.cells13 HN6.out.b3
  have nD := HN6.out.b3.reg D hD
  have fD := HN6.out.b3.frozen D
  clear n0 n1 n2 n3 n4 n5 n6 n7 n8 n9 n10 n11 n12
  go_upto_region 23 with fail
  have HN7 := Lib.hid (HN6.out.next (s3.up D x.w) (HN6.out.b3.up D hD x.w) (upd_set _ _ _ _ (Upd.refl _ _)))
  clear nD fD HN6
  obtain ⟨s4, hs4⟩ : ∃ s4, s3.up D x.w = s4 := ⟨_, rfl⟩
  rw [hs4] at HN7
  have HS4 := Lib.hid hs4
  clear hs4
  generalize w6.setCell ⟨w.heap.size + 1 + 1 + 1, D, none⟩ (u x.w) = w7 at *
  obtain ⟨n0, n1, n2, n3, n4, n5, n6, n7, n8, n9, n10, n11, n12⟩ := Blk.cells13 HN7.out.b3
  obtain ⟨z0, z1, z2, z3, z4, z5, z6, z7, z8, z9, z10, z11, z12⟩ := Blk.cells13 HN7.out.b2
  obtain ⟨f0, f1, f2, f3, f4, f5, f6, f7, f8, f9, f10, f11, f12⟩ := Blk.frozen13 HN7.out.b2
  go_wp2_with fail
  clear n0 n1 n2 n3 n4 n5 n6 n7 n8 n9 n10 n11 n12 z0 z1 z2 z3 z4 z5 z6 z7 z8 z9 z10 z11 z12 f0 f1 f2 f3 f4 f5 f6 f7 f8 f9 f10 f11 f12
  obtain ⟨hB, hU⟩ := blk13 HN7.out.b2 s4
  have HL := Lib.hid (upd_low HN7.out.low hU (by omega))
  obtain ⟨w8, hw8⟩ : ∃ w8, put13 w7 (w.heap.size + 1 + 1) s4 = w8 := ⟨_, rfl⟩
  rw [hw8] at hB HL
  simp only [put13] at hw8
  rw [hw8]
  clear hw8 hU
  obtain ⟨n0, n1, n2, n3, n4, n5, n6, n7, n8, n9, n10, n11, n12⟩ := Blk.cells13 hB
  exact bodyPost_ret (v := .tuple #[sv s4, .int .i64 0]) (by simp [results, Tryd.results61, go_sem, n0, n1, n2, n3, n4, n5, n6, n7, n8, n9, n10, n11, n12]) rfl ⟨by rw [HS1.out, HS2.out, HS3.out, HS4.out], HL.out⟩
set_option maxRecDepth 100000 in
set_option maxHeartbeats 2000000 in
theorem doCf (op D N M : Nat) (ho : op < 12) (hD : D < 8) (hN : N < 8) (hM : M < 8) (imm : BitVec 32) (hi : imm.toNat < 256) (hi16 : op = 11 → imm.toNat < 16) (hcan : ThRef.canB op D N M imm.toNat = true) (s : S) (r : Nat) (w : World) (hT : Tp.Tb w) (hs : ThRef.setsB op imm.toNat = false) :
    Calls Tryd.prog 61 #[.agg (iC op D N M imm.toNat), sv s, ptr r] w fun e w' => e = .returned (.tuple #[sv (doCS op D N M imm s), .int .i64 0]) ∧ Below w.heap.size w w' := by
  have hW := fun W h => Tp.writes op D N M imm.toNat W h
  have hwr : ThRef.wrV op D N M imm.toNat = .tuple #[.int .i64 0, .bool false] := by unfold ThRef.wrV; rw [hcan, hs]; rfl
  rw [hwr] at hW
  have HW := Lib.hid hW
  clear hW hwr hcan
  have hdo : doCS op D N M imm s = ((s.to (nextV op D (BitVec.ofInt 32 imm.toNat) s)).fl (cmp3 op D N M imm s).w).cv (cmp3 op D N M imm s).c (cmp3 op D N M imm s).v := by unfold doCS; rw [hs]; rfl
  rw [hdo]
  clear hdo hs
  have hF := fun W => following op D N M imm.toNat s W
  have hC := fun W => ccmp op D N M ho hD hN hM imm hi hi16 s W
  have e17 : ((op : Int) == 17) = false := by simp; omega
  have e18 : ((op : Int) == 18) = false := by simp; omega
  have e19 : ((op : Int) == 19) = false := by simp; omega
  have e12 : ((op : Int) == 12) = false := by simp; omega
  have e14 : ((op : Int) == 14) = false := by simp; omega
  have e16 : ((op : Int) == 16) = false := by simp; omega
  have e13 : ((op : Int) == 13) = false := by simp; omega
  have e15 : ((op : Int) == 15) = false := by simp; omega
  generalize nextV op D (BitVec.ofInt 32 imm.toNat) s = np at *
  generalize cmp3 op D N M imm s = x at *
  have HF := Lib.hid hF; have HC := Lib.hid hC; have HT := Lib.hid hT
  clear hF hC hT
  go_enter Tryd.func61, Tryd.ntmps61
  go_wp2_with fail
  refine (HF.out _).mono ?_
  rintro e w1 ⟨rfl, hb⟩
  have HN := Lib.hid ((dn_new w op D N M imm.toNat s).below hb)
  clear hb HF
  obtain ⟨⟨i0, i1, i2, i3, i4⟩, s0, s1, s2, s3, s4, s5, s6, s7, s8, s9, s10, s11, s12⟩ := HN.out.cells
  have n8 : w1.cell? ⟨w.heap.size + 1 + 1 + 1, 8, none⟩ = some (u s.pc) := HN.out.b3.cell 8
  have f8 : w1.frozen? ⟨w.heap.size + 1 + 1 + 1, 8, none⟩ = false := HN.out.b3.frozen 8
  go_wp2_with fail
  refine (HC.out _).mono ?_
  rintro e w2 ⟨rfl, hb⟩
  have HN2 := Lib.hid ((HN.out.next (s.to np) (blk_one HN.out.b3 8 (u np) rfl) (upd_set _ _ _ _ (Upd.refl _ _))).below hb)
  clear hb HC i0 i1 i2 i3 i4 s0 s1 s2 s3 s4 s5 s6 s7 s8 s9 s10 s11 s12 n8 f8
  have hfl := fun W => flags (s.to np) x.w W
  obtain ⟨s1, hs1⟩ : ∃ s1, s.to np = s1 := ⟨_, rfl⟩
  obtain ⟨s2, hs2⟩ : ∃ s2, s1.fl x.w = s2 := ⟨_, rfl⟩
  rw [hs1] at HN2 hfl
  rw [hs2] at hfl
  have HS1 := Lib.hid hs1; have HS2 := Lib.hid hs2
  clear hs1 hs2
  have HFL := Lib.hid hfl
  clear hfl
  obtain ⟨n0, n1, n2, n3, n4, n5, n6, n7, n8, n9, n10, n11, n12⟩ := Blk.cells13 HN2.out.b3
  have hsz := HN2.out.size
  have hlt : w.heap.size + 1 + 1 + 1 < w2.heap.size := HN2.out.b3.lt
  go_wp2_with fail
  refine (HFL.out _).mono ?_
  rintro e w3 ⟨rfl, hb⟩
  have HN3 := Lib.hid ((HN2.out.below ((Below.refl _ _).alloc (Nat.le_refl _) (.cells #[.bool x.c, .bool x.v] 128))).below hb)
  have HG := Lib.hid ((Blk.new w2 128 #[.bool x.c, .bool x.v]).below hb (by simp))
  generalize w2.heap.size = g at *
  clear hb HN2 HFL n0 n1 n2 n3 n4 n5 n6 n7 n8 n9 n10 n11 n12
  obtain ⟨n0, n1, n2, n3, n4, n5, n6, n7, n8, n9, n10, n11, n12⟩ := Blk.cells13 HN3.out.b3
  obtain ⟨f0, f1, f2, f3, f4, f5, f6, f7, f8, f9, f10, f11, f12⟩ := Blk.frozen13 HN3.out.b3
  go_wp2_with fail
  clear n0 n1 n2 n3 n4 n5 n6 n7 n8 n9 n10 n11 n12 f0 f1 f2 f3 f4 f5 f6 f7 f8 f9 f10 f11 f12
  obtain ⟨hB, hU⟩ := blk13 HN3.out.b3 s2
  have HN4 := Lib.hid (HN3.out.next s2 hB hU)
  have HG4 := Lib.hid (HG.out.upd hU (by omega))
  obtain ⟨w4, hw4⟩ : ∃ w4, put13 w3 (w.heap.size + 1 + 1 + 1) s2 = w4 := ⟨_, rfl⟩
  rw [hw4] at HN4 HG4
  simp only [put13] at hw4
  rw [hw4]
  clear hw4 hB hU HN3 HG
  have g0 : w4.cell? ⟨g, 0, none⟩ = some (.bool x.c) := HG4.out.cell 0
  have g1 : w4.cell? ⟨g, 1, none⟩ = some (.bool x.v) := HG4.out.cell 1
  have n11 : w4.cell? ⟨w.heap.size + 1 + 1 + 1, 11, none⟩ = some (.bool s2.c) := HN4.out.b3.cell 11
  have n12 : w4.cell? ⟨w.heap.size + 1 + 1 + 1, 12, none⟩ = some (.bool s2.v) := HN4.out.b3.cell 12
  have f11 := HN4.out.b3.frozen 11
  have f12 := HN4.out.b3.frozen 12
  go_region
  have HN5 := Lib.hid ((HN4.out.next (s2.cv x.c x.v) (blk_one (blk_one (cs' := sC { s2 with c := x.c }) HN4.out.b3 11 (.bool x.c) rfl) 12 (.bool x.v) rfl) (upd_set _ _ _ _ (upd_set _ _ _ _ (Upd.refl _ _)))).drew)
  clear g0 g1 n11 n12 f11 f12 HN4 HG4
  obtain ⟨s3, hs3⟩ : ∃ s3, s2.cv x.c x.v = s3 := ⟨_, rfl⟩
  rw [hs3] at HN5
  have HS3 := Lib.hid hs3
  clear hs3
  generalize ((w4.setCell ⟨w.heap.size + 1 + 1 + 1, 11, none⟩ (.bool x.c)).setCell ⟨w.heap.size + 1 + 1 + 1, 12, none⟩ (.bool x.v)).drew = w5 at *
  obtain ⟨⟨i0, i1, i2, i3, i4⟩, _⟩ := HN5.out.cells
  go_wp2_with fail
  refine (HW.out _ (HT.out.below HN5.out.low)).mono ?_
  rintro e w6 ⟨rfl, hb⟩
  have HN6 := Lib.hid (HN5.out.below hb)
  clear hb HN5 i0 i1 i2 i3 i4
  have HN7 := Lib.hid HN6.out
  clear HN6
  generalize w6 = w7 at *
  obtain ⟨s4, hs4⟩ : ∃ s4, s3 = s4 := ⟨_, rfl⟩
  rw [hs4] at HN7
  have HS4 := Lib.hid hs4
  clear hs4
  obtain ⟨n0, n1, n2, n3, n4, n5, n6, n7, n8, n9, n10, n11, n12⟩ := Blk.cells13 HN7.out.b3
  obtain ⟨z0, z1, z2, z3, z4, z5, z6, z7, z8, z9, z10, z11, z12⟩ := Blk.cells13 HN7.out.b2
  obtain ⟨f0, f1, f2, f3, f4, f5, f6, f7, f8, f9, f10, f11, f12⟩ := Blk.frozen13 HN7.out.b2
  go_wp2_with fail
  clear n0 n1 n2 n3 n4 n5 n6 n7 n8 n9 n10 n11 n12 z0 z1 z2 z3 z4 z5 z6 z7 z8 z9 z10 z11 z12 f0 f1 f2 f3 f4 f5 f6 f7 f8 f9 f10 f11 f12
  obtain ⟨hB, hU⟩ := blk13 HN7.out.b2 s4
  have HL := Lib.hid (upd_low HN7.out.low hU (by omega))
  obtain ⟨w8, hw8⟩ : ∃ w8, put13 w7 (w.heap.size + 1 + 1) s4 = w8 := ⟨_, rfl⟩
  rw [hw8] at hB HL
  simp only [put13] at hw8
  rw [hw8]
  clear hw8 hU
  obtain ⟨n0, n1, n2, n3, n4, n5, n6, n7, n8, n9, n10, n11, n12⟩ := Blk.cells13 hB
  exact bodyPost_ret (v := .tuple #[sv s4, .int .i64 0]) (by simp [results, Tryd.results61, go_sem, n0, n1, n2, n3, n4, n5, n6, n7, n8, n9, n10, n11, n12]) rfl ⟨by rw [HS1.out, HS2.out, HS3.out, HS4.out], HL.out⟩
theorem doC (op D N M : Nat) (ho : op < 12) (hD : D < 8) (hN : N < 8) (hM : M < 8) (imm : BitVec 32) (hi : imm.toNat < 256) (hi16 : op = 11 → imm.toNat < 16) (hcan : ThRef.canB op D N M imm.toNat = true) (s : S) (r : Nat) (w : World) (hT : Tp.Tb w) :
    Calls Tryd.prog 61 #[.agg (iC op D N M imm.toNat), sv s, ptr r] w fun e w' => e = .returned (.tuple #[sv (doCS op D N M imm s), .int .i64 0]) ∧ Below w.heap.size w w' := by
  cases hs : ThRef.setsB op imm.toNat with
  | true => exact doCt op D N M ho hD hN hM imm hi hi16 hcan s r w hT hs
  | false => exact doCf op D N M ho hD hN hM imm hi hi16 hcan s r w hT hs
end Go.Proofs.YtkafmpdjpjgkgaaDoor.Co
