/- DERIVED. CoRa in one text. By an AI agent. -/
import Derived.Test.YtkafmpdjpjgkgaaDoorZ27
/- DERIVED. Contracts of the reference's alu. By an AI agent. -/
namespace Go.Proofs.YtkafmpdjpjgkgaaDoor.Co
open Go.ChangeShapes Go.WideShapes Go.ChangeAt Go.RowKit WMath Word Ref Args Mm
set_option linter.unusedVariables false
set_option linter.unusedSimpArgs false
/-- What the reference makes of a result. -/
def outS (s : S) (x : R3) (d : Int) : S := putS (s.cv x.c x.v) x.w d
theorem mod256 (x : BitVec 32) : ((x.toNat : Int) % 256) = ((x.toNat % 256 : Nat) : Int) := by omega
set_option maxRecDepth 100000 in
set_option maxHeartbeats 2000000 in
theorem ralu0 (s : S) (d : Int) (hd : DOk d) (a b : BitVec 32) (w : World) : Calls Tryd.prog 48 #[sv s, .int .i64 0, .int .i64 d, u a, u b] w fun e w' => e = .returned (sv (outS s (alu3 0 a b s.c s.v) d)) ∧ Below w.heap.size w w' := by
  have ha1 := bd a; have hb1 := bd b
  have hx := b_and a b
  have hA := fun W => rput s (a &&& b) d hd W
  obtain ⟨s2, hs2⟩ : ∃ s2, putS s (a &&& b) d = s2 := ⟨_, rfl⟩
  rw [hs2] at hA
  generalize a &&& b = y at hx hA
  have HQ := Lib.hid hs2; have HA := Lib.hid hA
  clear hs2 hA hd
  obtain ⟨hsx, hbel⟩ := sx_new w s
  have HSX := Lib.hid hsx; have HBL := Lib.hid hbel
  clear hsx hbel
  go_enter Tryd.func48, Tryd.ntmps48
  go_wp2_with fail
  refine (HA.out _).mono ?_
  rintro e w1 ⟨rfl, hb⟩
  have HS := Lib.hid (HSX.out.below hb)
  have HB := Lib.hid (HBL.out.trans (hb.mono HBL.out.size))
  clear hb HA HSX HBL
  obtain ⟨z0, z1, z2, z3, z4, z5, z6, z7, z8, z9, z10, z11, z12⟩ := Blk.cells13 HS.out.b1
  obtain ⟨f0, f1, f2, f3, f4, f5, f6, f7, f8, f9, f10, f11, f12⟩ := Blk.frozen13 HS.out.b1
  go_wp2_with fail
  clear z0 z1 z2 z3 z4 z5 z6 z7 z8 z9 z10 z11 z12 f0 f1 f2 f3 f4 f5 f6 f7 f8 f9 f10 f11 f12
  obtain ⟨hB, hU⟩ := blk13 HS.out.b1 s2
  have HL := Lib.hid (upd_low HB.out hU (by omega))
  obtain ⟨w8, hw8⟩ : ∃ w8, put13 w1 (w.heap.size + 1) s2 = w8 := ⟨_, rfl⟩
  rw [hw8] at hB HL
  simp only [put13] at hw8
  rw [hw8]
  clear hw8 hU
  obtain ⟨n0, n1, n2, n3, n4, n5, n6, n7, n8, n9, n10, n11, n12⟩ := Blk.cells13 hB
  exact bodyPost_ret (v := sv s2) (by simp [results, Tryd.results48, go_sem, n0, n1, n2, n3, n4, n5, n6, n7, n8, n9, n10, n11, n12]) rfl ⟨by rw [← HQ.out]; rfl, HL.out⟩
set_option maxRecDepth 100000 in
set_option maxHeartbeats 2000000 in
theorem ralu1 (s : S) (d : Int) (hd : DOk d) (a b : BitVec 32) (w : World) : Calls Tryd.prog 48 #[sv s, .int .i64 1, .int .i64 d, u a, u b] w fun e w' => e = .returned (sv (outS s (alu3 1 a b s.c s.v) d)) ∧ Below w.heap.size w w' := by
  have ha1 := bd a; have hb1 := bd b
  have hx := b_xor a b
  have hA := fun W => rput s (a ^^^ b) d hd W
  obtain ⟨s2, hs2⟩ : ∃ s2, putS s (a ^^^ b) d = s2 := ⟨_, rfl⟩
  rw [hs2] at hA
  generalize a ^^^ b = y at hx hA
  have HQ := Lib.hid hs2; have HA := Lib.hid hA
  clear hs2 hA hd
  obtain ⟨hsx, hbel⟩ := sx_new w s
  have HSX := Lib.hid hsx; have HBL := Lib.hid hbel
  clear hsx hbel
  go_enter Tryd.func48, Tryd.ntmps48
  go_wp2_with fail
  refine (HA.out _).mono ?_
  rintro e w1 ⟨rfl, hb⟩
  have HS := Lib.hid (HSX.out.below hb)
  have HB := Lib.hid (HBL.out.trans (hb.mono HBL.out.size))
  clear hb HA HSX HBL
  obtain ⟨z0, z1, z2, z3, z4, z5, z6, z7, z8, z9, z10, z11, z12⟩ := Blk.cells13 HS.out.b1
  obtain ⟨f0, f1, f2, f3, f4, f5, f6, f7, f8, f9, f10, f11, f12⟩ := Blk.frozen13 HS.out.b1
  go_wp2_with fail
  clear z0 z1 z2 z3 z4 z5 z6 z7 z8 z9 z10 z11 z12 f0 f1 f2 f3 f4 f5 f6 f7 f8 f9 f10 f11 f12
  obtain ⟨hB, hU⟩ := blk13 HS.out.b1 s2
  have HL := Lib.hid (upd_low HB.out hU (by omega))
  obtain ⟨w8, hw8⟩ : ∃ w8, put13 w1 (w.heap.size + 1) s2 = w8 := ⟨_, rfl⟩
  rw [hw8] at hB HL
  simp only [put13] at hw8
  rw [hw8]
  clear hw8 hU
  obtain ⟨n0, n1, n2, n3, n4, n5, n6, n7, n8, n9, n10, n11, n12⟩ := Blk.cells13 hB
  exact bodyPost_ret (v := sv s2) (by simp [results, Tryd.results48, go_sem, n0, n1, n2, n3, n4, n5, n6, n7, n8, n9, n10, n11, n12]) rfl ⟨by rw [← HQ.out]; rfl, HL.out⟩
set_option maxRecDepth 100000 in
set_option maxHeartbeats 2000000 in
theorem ralu2 (s : S) (d : Int) (hd : DOk d) (a b : BitVec 32) (w : World) : Calls Tryd.prog 48 #[sv s, .int .i64 2, .int .i64 d, u a, u b] w fun e w' => e = .returned (sv (outS s (alu3 2 a b s.c s.v) d)) ∧ Below w.heap.size w w' := by
  have ha1 := bd a; have hb1 := bd b
  have hm := mod256 b
  have hl : b.toNat % 256 < 256 := by omega
  have hA := fun W => (show Calls Tryd.prog 47 #[sv s, .int .i64 0, u a, .int .u32 ((b.toNat % 256 : Nat) : Int), .int .i64 d] W fun e w' => e = .returned (sv (putS (s.cv (sh3 0 a (b.toNat % 256) s.c s.v).c (sh3 0 a (b.toNat % 256) s.c s.v).v) (sh3 0 a (b.toNat % 256) s.c s.v).w d)) ∧ Below W.heap.size W w' from rshS s 0 (by decide) a (b.toNat % 256) (by omega) d hd W)
  obtain ⟨s2, hs2⟩ : ∃ s2, putS (s.cv (sh3 0 a (b.toNat % 256) s.c s.v).c (sh3 0 a (b.toNat % 256) s.c s.v).v) (sh3 0 a (b.toNat % 256) s.c s.v).w d = s2 := ⟨_, rfl⟩
  rw [hs2] at hA
  generalize b.toNat % 256 = y at hm hA hl
  have HQ := Lib.hid hs2; have HA := Lib.hid hA
  clear hs2 hA hd
  obtain ⟨hsx, hbel⟩ := sx_new w s
  have HSX := Lib.hid hsx; have HBL := Lib.hid hbel
  clear hsx hbel
  go_enter Tryd.func48, Tryd.ntmps48
  go_wp2_with fail
  refine (HA.out _).mono ?_
  rintro e w1 ⟨rfl, hb⟩
  have HS := Lib.hid (HSX.out.below hb)
  have HB := Lib.hid (HBL.out.trans (hb.mono HBL.out.size))
  clear hb HA HSX HBL
  obtain ⟨z0, z1, z2, z3, z4, z5, z6, z7, z8, z9, z10, z11, z12⟩ := Blk.cells13 HS.out.b1
  obtain ⟨f0, f1, f2, f3, f4, f5, f6, f7, f8, f9, f10, f11, f12⟩ := Blk.frozen13 HS.out.b1
  go_wp2_with fail
  clear z0 z1 z2 z3 z4 z5 z6 z7 z8 z9 z10 z11 z12 f0 f1 f2 f3 f4 f5 f6 f7 f8 f9 f10 f11 f12
  obtain ⟨hB, hU⟩ := blk13 HS.out.b1 s2
  have HL := Lib.hid (upd_low HB.out hU (by omega))
  obtain ⟨w8, hw8⟩ : ∃ w8, put13 w1 (w.heap.size + 1) s2 = w8 := ⟨_, rfl⟩
  rw [hw8] at hB HL
  simp only [put13] at hw8
  rw [hw8]
  clear hw8 hU
  obtain ⟨n0, n1, n2, n3, n4, n5, n6, n7, n8, n9, n10, n11, n12⟩ := Blk.cells13 hB
  exact bodyPost_ret (v := sv s2) (by simp [results, Tryd.results48, go_sem, n0, n1, n2, n3, n4, n5, n6, n7, n8, n9, n10, n11, n12]) rfl ⟨by rw [← HQ.out]; rfl, HL.out⟩
set_option maxRecDepth 100000 in
set_option maxHeartbeats 2000000 in
theorem ralu3 (s : S) (d : Int) (hd : DOk d) (a b : BitVec 32) (w : World) : Calls Tryd.prog 48 #[sv s, .int .i64 3, .int .i64 d, u a, u b] w fun e w' => e = .returned (sv (outS s (alu3 3 a b s.c s.v) d)) ∧ Below w.heap.size w w' := by
  have ha1 := bd a; have hb1 := bd b
  have hm := mod256 b
  have hl : b.toNat % 256 < 256 := by omega
  have hA := fun W => (show Calls Tryd.prog 47 #[sv s, .int .i64 1, u a, .int .u32 ((b.toNat % 256 : Nat) : Int), .int .i64 d] W fun e w' => e = .returned (sv (putS (s.cv (sh3 1 a (b.toNat % 256) s.c s.v).c (sh3 1 a (b.toNat % 256) s.c s.v).v) (sh3 1 a (b.toNat % 256) s.c s.v).w d)) ∧ Below W.heap.size W w' from rshS s 1 (by decide) a (b.toNat % 256) (by omega) d hd W)
  obtain ⟨s2, hs2⟩ : ∃ s2, putS (s.cv (sh3 1 a (b.toNat % 256) s.c s.v).c (sh3 1 a (b.toNat % 256) s.c s.v).v) (sh3 1 a (b.toNat % 256) s.c s.v).w d = s2 := ⟨_, rfl⟩
  rw [hs2] at hA
  generalize b.toNat % 256 = y at hm hA hl
  have HQ := Lib.hid hs2; have HA := Lib.hid hA
  clear hs2 hA hd
  obtain ⟨hsx, hbel⟩ := sx_new w s
  have HSX := Lib.hid hsx; have HBL := Lib.hid hbel
  clear hsx hbel
  go_enter Tryd.func48, Tryd.ntmps48
  go_wp2_with fail
  refine (HA.out _).mono ?_
  rintro e w1 ⟨rfl, hb⟩
  have HS := Lib.hid (HSX.out.below hb)
  have HB := Lib.hid (HBL.out.trans (hb.mono HBL.out.size))
  clear hb HA HSX HBL
  obtain ⟨z0, z1, z2, z3, z4, z5, z6, z7, z8, z9, z10, z11, z12⟩ := Blk.cells13 HS.out.b1
  obtain ⟨f0, f1, f2, f3, f4, f5, f6, f7, f8, f9, f10, f11, f12⟩ := Blk.frozen13 HS.out.b1
  go_wp2_with fail
  clear z0 z1 z2 z3 z4 z5 z6 z7 z8 z9 z10 z11 z12 f0 f1 f2 f3 f4 f5 f6 f7 f8 f9 f10 f11 f12
  obtain ⟨hB, hU⟩ := blk13 HS.out.b1 s2
  have HL := Lib.hid (upd_low HB.out hU (by omega))
  obtain ⟨w8, hw8⟩ : ∃ w8, put13 w1 (w.heap.size + 1) s2 = w8 := ⟨_, rfl⟩
  rw [hw8] at hB HL
  simp only [put13] at hw8
  rw [hw8]
  clear hw8 hU
  obtain ⟨n0, n1, n2, n3, n4, n5, n6, n7, n8, n9, n10, n11, n12⟩ := Blk.cells13 hB
  exact bodyPost_ret (v := sv s2) (by simp [results, Tryd.results48, go_sem, n0, n1, n2, n3, n4, n5, n6, n7, n8, n9, n10, n11, n12]) rfl ⟨by rw [← HQ.out]; rfl, HL.out⟩
set_option maxRecDepth 100000 in
set_option maxHeartbeats 2000000 in
theorem ralu4 (s : S) (d : Int) (hd : DOk d) (a b : BitVec 32) (w : World) : Calls Tryd.prog 48 #[sv s, .int .i64 4, .int .i64 d, u a, u b] w fun e w' => e = .returned (sv (outS s (alu3 4 a b s.c s.v) d)) ∧ Below w.heap.size w w' := by
  have ha1 := bd a; have hb1 := bd b
  have hm := mod256 b
  have hl : b.toNat % 256 < 256 := by omega
  have hA := fun W => (show Calls Tryd.prog 47 #[sv s, .int .i64 2, u a, .int .u32 ((b.toNat % 256 : Nat) : Int), .int .i64 d] W fun e w' => e = .returned (sv (putS (s.cv (sh3 2 a (b.toNat % 256) s.c s.v).c (sh3 2 a (b.toNat % 256) s.c s.v).v) (sh3 2 a (b.toNat % 256) s.c s.v).w d)) ∧ Below W.heap.size W w' from rshS s 2 (by decide) a (b.toNat % 256) (by omega) d hd W)
  obtain ⟨s2, hs2⟩ : ∃ s2, putS (s.cv (sh3 2 a (b.toNat % 256) s.c s.v).c (sh3 2 a (b.toNat % 256) s.c s.v).v) (sh3 2 a (b.toNat % 256) s.c s.v).w d = s2 := ⟨_, rfl⟩
  rw [hs2] at hA
  generalize b.toNat % 256 = y at hm hA hl
  have HQ := Lib.hid hs2; have HA := Lib.hid hA
  clear hs2 hA hd
  obtain ⟨hsx, hbel⟩ := sx_new w s
  have HSX := Lib.hid hsx; have HBL := Lib.hid hbel
  clear hsx hbel
  go_enter Tryd.func48, Tryd.ntmps48
  go_wp2_with fail
  refine (HA.out _).mono ?_
  rintro e w1 ⟨rfl, hb⟩
  have HS := Lib.hid (HSX.out.below hb)
  have HB := Lib.hid (HBL.out.trans (hb.mono HBL.out.size))
  clear hb HA HSX HBL
  obtain ⟨z0, z1, z2, z3, z4, z5, z6, z7, z8, z9, z10, z11, z12⟩ := Blk.cells13 HS.out.b1
  obtain ⟨f0, f1, f2, f3, f4, f5, f6, f7, f8, f9, f10, f11, f12⟩ := Blk.frozen13 HS.out.b1
  go_wp2_with fail
  clear z0 z1 z2 z3 z4 z5 z6 z7 z8 z9 z10 z11 z12 f0 f1 f2 f3 f4 f5 f6 f7 f8 f9 f10 f11 f12
  obtain ⟨hB, hU⟩ := blk13 HS.out.b1 s2
  have HL := Lib.hid (upd_low HB.out hU (by omega))
  obtain ⟨w8, hw8⟩ : ∃ w8, put13 w1 (w.heap.size + 1) s2 = w8 := ⟨_, rfl⟩
  rw [hw8] at hB HL
  simp only [put13] at hw8
  rw [hw8]
  clear hw8 hU
  obtain ⟨n0, n1, n2, n3, n4, n5, n6, n7, n8, n9, n10, n11, n12⟩ := Blk.cells13 hB
  exact bodyPost_ret (v := sv s2) (by simp [results, Tryd.results48, go_sem, n0, n1, n2, n3, n4, n5, n6, n7, n8, n9, n10, n11, n12]) rfl ⟨by rw [← HQ.out]; rfl, HL.out⟩
set_option maxRecDepth 100000 in
set_option maxHeartbeats 2000000 in
theorem ralu5 (s : S) (d : Int) (hd : DOk d) (a b : BitVec 32) (w : World) : Calls Tryd.prog 48 #[sv s, .int .i64 5, .int .i64 d, u a, u b] w fun e w' => e = .returned (sv (outS s (alu3 5 a b s.c s.v) d)) ∧ Below w.heap.size w w' := by
  have ha1 := bd a; have hb1 := bd b
  have hA := fun W => rsum s a b s.c d hd W
  obtain ⟨s2, hs2⟩ : ∃ s2, putS (s.cv (sum3 a b s.c).c (sum3 a b s.c).v) (sum3 a b s.c).w d = s2 := ⟨_, rfl⟩
  rw [hs2] at hA
  have HQ := Lib.hid hs2; have HA := Lib.hid hA
  clear hs2 hA hd
  obtain ⟨hsx, hbel⟩ := sx_new w s
  have HSX := Lib.hid hsx; have HBL := Lib.hid hbel
  clear hsx hbel
  go_enter Tryd.func48, Tryd.ntmps48
  go_wp2_with fail
  refine (HA.out _).mono ?_
  rintro e w1 ⟨rfl, hb⟩
  have HS := Lib.hid (HSX.out.below hb)
  have HB := Lib.hid (HBL.out.trans (hb.mono HBL.out.size))
  clear hb HA HSX HBL
  obtain ⟨z0, z1, z2, z3, z4, z5, z6, z7, z8, z9, z10, z11, z12⟩ := Blk.cells13 HS.out.b1
  obtain ⟨f0, f1, f2, f3, f4, f5, f6, f7, f8, f9, f10, f11, f12⟩ := Blk.frozen13 HS.out.b1
  go_wp2_with fail
  clear z0 z1 z2 z3 z4 z5 z6 z7 z8 z9 z10 z11 z12 f0 f1 f2 f3 f4 f5 f6 f7 f8 f9 f10 f11 f12
  obtain ⟨hB, hU⟩ := blk13 HS.out.b1 s2
  have HL := Lib.hid (upd_low HB.out hU (by omega))
  obtain ⟨w8, hw8⟩ : ∃ w8, put13 w1 (w.heap.size + 1) s2 = w8 := ⟨_, rfl⟩
  rw [hw8] at hB HL
  simp only [put13] at hw8
  rw [hw8]
  clear hw8 hU
  obtain ⟨n0, n1, n2, n3, n4, n5, n6, n7, n8, n9, n10, n11, n12⟩ := Blk.cells13 hB
  exact bodyPost_ret (v := sv s2) (by simp [results, Tryd.results48, go_sem, n0, n1, n2, n3, n4, n5, n6, n7, n8, n9, n10, n11, n12]) rfl ⟨by rw [← HQ.out]; rfl, HL.out⟩
set_option maxRecDepth 100000 in
set_option maxHeartbeats 2000000 in
theorem ralu6 (s : S) (d : Int) (hd : DOk d) (a b : BitVec 32) (w : World) : Calls Tryd.prog 48 #[sv s, .int .i64 6, .int .i64 d, u a, u b] w fun e w' => e = .returned (sv (outS s (alu3 6 a b s.c s.v) d)) ∧ Below w.heap.size w w' := by
  have ha1 := bd a; have hb1 := bd b
  obtain ⟨nb, hnb⟩ : ∃ nb, ~~~b = nb := ⟨_, rfl⟩
  have hn := fun W => rnot b W
  rw [hnb] at hn
  have HN := Lib.hid hn; have HNB := Lib.hid hnb
  clear hn hnb
  have hA := fun W => rsum s a nb s.c d hd W
  obtain ⟨s2, hs2⟩ : ∃ s2, putS (s.cv (sum3 a nb s.c).c (sum3 a nb s.c).v) (sum3 a nb s.c).w d = s2 := ⟨_, rfl⟩
  rw [hs2] at hA
  have HQ := Lib.hid hs2; have HA := Lib.hid hA
  clear hs2 hA hd
  obtain ⟨hsx, hbel⟩ := sx_new w s
  have HSX := Lib.hid hsx; have HBL := Lib.hid hbel
  clear hsx hbel
  go_enter Tryd.func48, Tryd.ntmps48
  go_wp2_with fail
  obtain ⟨w0, hw0⟩ : ∃ w0, (w.alloc (.cells (sC s) 51)).alloc (.cells #[Value.int .u32 0, Value.int .u32 0, Value.int .u32 0, Value.int .u32 0, Value.int .u32 0, Value.int .u32 0, Value.int .u32 0, Value.int .u32 0, Value.int .u32 0, .bool false, .bool false, .bool false, .bool false] 51) = w0 := ⟨_, rfl⟩
  rw [hw0]
  have hw1 : (w.alloc (.cells (sC s) 51)).alloc (.cells (sC zS) 51) = w0 := hw0
  rw [hw1] at HSX HBL
  clear hw0 hw1
  have HL0 := Lib.hid (show w0.cell? ⟨w.heap.size, 0, none⟩ = some (u (s.r 0)) ∧ w0.cell? ⟨w.heap.size, 1, none⟩ = some (u (s.r 1)) ∧ w0.cell? ⟨w.heap.size, 2, none⟩ = some (u (s.r 2)) ∧ w0.cell? ⟨w.heap.size, 3, none⟩ = some (u (s.r 3)) ∧ w0.cell? ⟨w.heap.size, 4, none⟩ = some (u (s.r 4)) ∧ w0.cell? ⟨w.heap.size, 5, none⟩ = some (u (s.r 5)) ∧ w0.cell? ⟨w.heap.size, 6, none⟩ = some (u (s.r 6)) ∧ w0.cell? ⟨w.heap.size, 7, none⟩ = some (u (s.r 7)) ∧ w0.cell? ⟨w.heap.size, 8, none⟩ = some (u s.pc) ∧ w0.cell? ⟨w.heap.size, 9, none⟩ = some (.bool s.n) ∧ w0.cell? ⟨w.heap.size, 10, none⟩ = some (.bool s.z) ∧ w0.cell? ⟨w.heap.size, 11, none⟩ = some (.bool s.c) ∧ w0.cell? ⟨w.heap.size, 12, none⟩ = some (.bool s.v) from Blk.cells13 HSX.out.b0)
  have HL0d := Lib.hid (show w0.drew.cell? ⟨w.heap.size, 0, none⟩ = some (u (s.r 0)) ∧ w0.drew.cell? ⟨w.heap.size, 1, none⟩ = some (u (s.r 1)) ∧ w0.drew.cell? ⟨w.heap.size, 2, none⟩ = some (u (s.r 2)) ∧ w0.drew.cell? ⟨w.heap.size, 3, none⟩ = some (u (s.r 3)) ∧ w0.drew.cell? ⟨w.heap.size, 4, none⟩ = some (u (s.r 4)) ∧ w0.drew.cell? ⟨w.heap.size, 5, none⟩ = some (u (s.r 5)) ∧ w0.drew.cell? ⟨w.heap.size, 6, none⟩ = some (u (s.r 6)) ∧ w0.drew.cell? ⟨w.heap.size, 7, none⟩ = some (u (s.r 7)) ∧ w0.drew.cell? ⟨w.heap.size, 8, none⟩ = some (u s.pc) ∧ w0.drew.cell? ⟨w.heap.size, 9, none⟩ = some (.bool s.n) ∧ w0.drew.cell? ⟨w.heap.size, 10, none⟩ = some (.bool s.z) ∧ w0.drew.cell? ⟨w.heap.size, 11, none⟩ = some (.bool s.c) ∧ w0.drew.cell? ⟨w.heap.size, 12, none⟩ = some (.bool s.v) from Blk.cells13 HSX.out.b0)
  obtain ⟨n0, n1, n2, n3, n4, n5, n6, n7, n8, n9, n10, n11, n12⟩ := Blk.cells13 HSX.out.b0
  go_region_held3 (fun w' => w'.cell? ⟨w.heap.size, 0, none⟩ = some (u (s.r 0)) ∧ w'.cell? ⟨w.heap.size, 1, none⟩ = some (u (s.r 1)) ∧ w'.cell? ⟨w.heap.size, 2, none⟩ = some (u (s.r 2)) ∧ w'.cell? ⟨w.heap.size, 3, none⟩ = some (u (s.r 3)) ∧ w'.cell? ⟨w.heap.size, 4, none⟩ = some (u (s.r 4)) ∧ w'.cell? ⟨w.heap.size, 5, none⟩ = some (u (s.r 5)) ∧ w'.cell? ⟨w.heap.size, 6, none⟩ = some (u (s.r 6)) ∧ w'.cell? ⟨w.heap.size, 7, none⟩ = some (u (s.r 7)) ∧ w'.cell? ⟨w.heap.size, 8, none⟩ = some (u s.pc) ∧ w'.cell? ⟨w.heap.size, 9, none⟩ = some (.bool s.n) ∧ w'.cell? ⟨w.heap.size, 10, none⟩ = some (.bool s.z) ∧ w'.cell? ⟨w.heap.size, 11, none⟩ = some (.bool s.c) ∧ w'.cell? ⟨w.heap.size, 12, none⟩ = some (.bool s.v)) (first | with_reducible exact HL0.out | with_reducible exact HL0d.out | with_reducible exact HL1.out | with_reducible exact HL3.out) (first | (go_at_call 45; refine (HA.out _).mono ?_; rintro e w1 ⟨rfl, hb⟩; have HS := Lib.hid ((show Sx w s w0.drew from ⟨HSX.out.b0, HSX.out.b1⟩).below hb); have HB := Lib.hid (HBL.out.drew.trans (hb.mono HBL.out.drew.size)); have HL1 := Lib.hid (show w1.cell? ⟨w.heap.size, 0, none⟩ = some (u (s.r 0)) ∧ w1.cell? ⟨w.heap.size, 1, none⟩ = some (u (s.r 1)) ∧ w1.cell? ⟨w.heap.size, 2, none⟩ = some (u (s.r 2)) ∧ w1.cell? ⟨w.heap.size, 3, none⟩ = some (u (s.r 3)) ∧ w1.cell? ⟨w.heap.size, 4, none⟩ = some (u (s.r 4)) ∧ w1.cell? ⟨w.heap.size, 5, none⟩ = some (u (s.r 5)) ∧ w1.cell? ⟨w.heap.size, 6, none⟩ = some (u (s.r 6)) ∧ w1.cell? ⟨w.heap.size, 7, none⟩ = some (u (s.r 7)) ∧ w1.cell? ⟨w.heap.size, 8, none⟩ = some (u s.pc) ∧ w1.cell? ⟨w.heap.size, 9, none⟩ = some (.bool s.n) ∧ w1.cell? ⟨w.heap.size, 10, none⟩ = some (.bool s.z) ∧ w1.cell? ⟨w.heap.size, 11, none⟩ = some (.bool s.c) ∧ w1.cell? ⟨w.heap.size, 12, none⟩ = some (.bool s.v) from Blk.cells13 HS.out.b0); obtain ⟨z0, z1, z2, z3, z4, z5, z6, z7, z8, z9, z10, z11, z12⟩ := Blk.cells13 HS.out.b1; obtain ⟨f0, f1, f2, f3, f4, f5, f6, f7, f8, f9, f10, f11, f12⟩ := Blk.frozen13 HS.out.b1; have HB5 := Lib.hid (blk13 HS.out.b1 s2); have HL3 := Lib.hid (show (put13 w1 (w.heap.size + 1) s2).cell? ⟨w.heap.size, 0, none⟩ = some (u (s.r 0)) ∧ (put13 w1 (w.heap.size + 1) s2).cell? ⟨w.heap.size, 1, none⟩ = some (u (s.r 1)) ∧ (put13 w1 (w.heap.size + 1) s2).cell? ⟨w.heap.size, 2, none⟩ = some (u (s.r 2)) ∧ (put13 w1 (w.heap.size + 1) s2).cell? ⟨w.heap.size, 3, none⟩ = some (u (s.r 3)) ∧ (put13 w1 (w.heap.size + 1) s2).cell? ⟨w.heap.size, 4, none⟩ = some (u (s.r 4)) ∧ (put13 w1 (w.heap.size + 1) s2).cell? ⟨w.heap.size, 5, none⟩ = some (u (s.r 5)) ∧ (put13 w1 (w.heap.size + 1) s2).cell? ⟨w.heap.size, 6, none⟩ = some (u (s.r 6)) ∧ (put13 w1 (w.heap.size + 1) s2).cell? ⟨w.heap.size, 7, none⟩ = some (u (s.r 7)) ∧ (put13 w1 (w.heap.size + 1) s2).cell? ⟨w.heap.size, 8, none⟩ = some (u s.pc) ∧ (put13 w1 (w.heap.size + 1) s2).cell? ⟨w.heap.size, 9, none⟩ = some (.bool s.n) ∧ (put13 w1 (w.heap.size + 1) s2).cell? ⟨w.heap.size, 10, none⟩ = some (.bool s.z) ∧ (put13 w1 (w.heap.size + 1) s2).cell? ⟨w.heap.size, 11, none⟩ = some (.bool s.c) ∧ (put13 w1 (w.heap.size + 1) s2).cell? ⟨w.heap.size, 12, none⟩ = some (.bool s.v) from Blk.cells13 (HS.out.b0.upd HB5.out.2 (by omega))); clear hb) | (go_at_call 46; refine (HN.out _).mono ?_; rintro e w9 ⟨rfl, rfl⟩))
  obtain ⟨hB, hU⟩ := HB5.out
  have HL := Lib.hid (upd_low HB.out hU (by omega))
  clear HL0 HL0d HL1 HL3 HB5 HB n0 n1 n2 n3 n4 n5 n6 n7 n8 n9 n10 n11 n12 z0 z1 z2 z3 z4 z5 z6 z7 z8 z9 z10 z11 z12 f0 f1 f2 f3 f4 f5 f6 f7 f8 f9 f10 f11 f12 hU
  obtain ⟨w8, hw8⟩ : ∃ w8, put13 w1 (w.heap.size + 1) s2 = w8 := ⟨_, rfl⟩
  rw [hw8] at hB HL
  simp only [put13] at hw8
  rw [hw8]
  clear hw8
  obtain ⟨n0, n1, n2, n3, n4, n5, n6, n7, n8, n9, n10, n11, n12⟩ := Blk.cells13 hB
  go_wp2_with fail
  exact bodyPost_ret (v := sv s2) (by simp [results, Tryd.results48, go_sem, n0, n1, n2, n3, n4, n5, n6, n7, n8, n9, n10, n11, n12]) rfl ⟨by rw [← HQ.out, ← HNB.out]; rfl, HL.out⟩
set_option maxRecDepth 100000 in
set_option maxHeartbeats 2000000 in
theorem ralu7 (s : S) (d : Int) (hd : DOk d) (a b : BitVec 32) (w : World) : Calls Tryd.prog 48 #[sv s, .int .i64 7, .int .i64 d, u a, u b] w fun e w' => e = .returned (sv (outS s (alu3 7 a b s.c s.v) d)) ∧ Below w.heap.size w w' := by
  have ha1 := bd a; have hb1 := bd b
  have hm := mod256 b
  have hl : b.toNat % 256 < 256 := by omega
  have hA := fun W => (show Calls Tryd.prog 47 #[sv s, .int .i64 3, u a, .int .u32 ((b.toNat % 256 : Nat) : Int), .int .i64 d] W fun e w' => e = .returned (sv (putS (s.cv (sh3 3 a (b.toNat % 256) s.c s.v).c (sh3 3 a (b.toNat % 256) s.c s.v).v) (sh3 3 a (b.toNat % 256) s.c s.v).w d)) ∧ Below W.heap.size W w' from rshS s 3 (by decide) a (b.toNat % 256) (by omega) d hd W)
  obtain ⟨s2, hs2⟩ : ∃ s2, putS (s.cv (sh3 3 a (b.toNat % 256) s.c s.v).c (sh3 3 a (b.toNat % 256) s.c s.v).v) (sh3 3 a (b.toNat % 256) s.c s.v).w d = s2 := ⟨_, rfl⟩
  rw [hs2] at hA
  generalize b.toNat % 256 = y at hm hA hl
  have HQ := Lib.hid hs2; have HA := Lib.hid hA
  clear hs2 hA hd
  obtain ⟨hsx, hbel⟩ := sx_new w s
  have HSX := Lib.hid hsx; have HBL := Lib.hid hbel
  clear hsx hbel
  go_enter Tryd.func48, Tryd.ntmps48
  go_wp2_with fail
  refine (HA.out _).mono ?_
  rintro e w1 ⟨rfl, hb⟩
  have HS := Lib.hid (HSX.out.below hb)
  have HB := Lib.hid (HBL.out.trans (hb.mono HBL.out.size))
  clear hb HA HSX HBL
  obtain ⟨z0, z1, z2, z3, z4, z5, z6, z7, z8, z9, z10, z11, z12⟩ := Blk.cells13 HS.out.b1
  obtain ⟨f0, f1, f2, f3, f4, f5, f6, f7, f8, f9, f10, f11, f12⟩ := Blk.frozen13 HS.out.b1
  go_wp2_with fail
  clear z0 z1 z2 z3 z4 z5 z6 z7 z8 z9 z10 z11 z12 f0 f1 f2 f3 f4 f5 f6 f7 f8 f9 f10 f11 f12
  obtain ⟨hB, hU⟩ := blk13 HS.out.b1 s2
  have HL := Lib.hid (upd_low HB.out hU (by omega))
  obtain ⟨w8, hw8⟩ : ∃ w8, put13 w1 (w.heap.size + 1) s2 = w8 := ⟨_, rfl⟩
  rw [hw8] at hB HL
  simp only [put13] at hw8
  rw [hw8]
  clear hw8 hU
  obtain ⟨n0, n1, n2, n3, n4, n5, n6, n7, n8, n9, n10, n11, n12⟩ := Blk.cells13 hB
  exact bodyPost_ret (v := sv s2) (by simp [results, Tryd.results48, go_sem, n0, n1, n2, n3, n4, n5, n6, n7, n8, n9, n10, n11, n12]) rfl ⟨by rw [← HQ.out]; rfl, HL.out⟩
set_option maxRecDepth 100000 in
set_option maxHeartbeats 2000000 in
theorem ralu8 (s : S) (d : Int) (hd : DOk d) (a b : BitVec 32) (w : World) : Calls Tryd.prog 48 #[sv s, .int .i64 8, .int .i64 d, u a, u b] w fun e w' => e = .returned (sv (outS s (alu3 8 a b s.c s.v) (-1))) ∧ Below w.heap.size w w' := by
  have ha1 := bd a; have hb1 := bd b
  have hx := b_and a b
  have hA := fun W => rput s (a &&& b) (-1) (.inl rfl) W
  obtain ⟨s2, hs2⟩ : ∃ s2, putS s (a &&& b) (-1) = s2 := ⟨_, rfl⟩
  rw [hs2] at hA
  generalize a &&& b = y at hx hA
  have HQ := Lib.hid hs2; have HA := Lib.hid hA
  clear hs2 hA hd
  obtain ⟨hsx, hbel⟩ := sx_new w s
  have HSX := Lib.hid hsx; have HBL := Lib.hid hbel
  clear hsx hbel
  go_enter Tryd.func48, Tryd.ntmps48
  go_wp2_with fail
  refine (HA.out _).mono ?_
  rintro e w1 ⟨rfl, hb⟩
  have HS := Lib.hid (HSX.out.below hb)
  have HB := Lib.hid (HBL.out.trans (hb.mono HBL.out.size))
  clear hb HA HSX HBL
  obtain ⟨z0, z1, z2, z3, z4, z5, z6, z7, z8, z9, z10, z11, z12⟩ := Blk.cells13 HS.out.b1
  obtain ⟨f0, f1, f2, f3, f4, f5, f6, f7, f8, f9, f10, f11, f12⟩ := Blk.frozen13 HS.out.b1
  go_wp2_with fail
  clear z0 z1 z2 z3 z4 z5 z6 z7 z8 z9 z10 z11 z12 f0 f1 f2 f3 f4 f5 f6 f7 f8 f9 f10 f11 f12
  obtain ⟨hB, hU⟩ := blk13 HS.out.b1 s2
  have HL := Lib.hid (upd_low HB.out hU (by omega))
  obtain ⟨w8, hw8⟩ : ∃ w8, put13 w1 (w.heap.size + 1) s2 = w8 := ⟨_, rfl⟩
  rw [hw8] at hB HL
  simp only [put13] at hw8
  rw [hw8]
  clear hw8 hU
  obtain ⟨n0, n1, n2, n3, n4, n5, n6, n7, n8, n9, n10, n11, n12⟩ := Blk.cells13 hB
  exact bodyPost_ret (v := sv s2) (by simp [results, Tryd.results48, go_sem, n0, n1, n2, n3, n4, n5, n6, n7, n8, n9, n10, n11, n12]) rfl ⟨by rw [← HQ.out]; rfl, HL.out⟩
set_option maxRecDepth 100000 in
set_option maxHeartbeats 2000000 in
theorem ralu9 (s : S) (d : Int) (hd : DOk d) (a b : BitVec 32) (w : World) : Calls Tryd.prog 48 #[sv s, .int .i64 9, .int .i64 d, u a, u b] w fun e w' => e = .returned (sv (outS s (alu3 9 a b s.c s.v) d)) ∧ Below w.heap.size w w' := by
  have ha1 := bd a; have hb1 := bd b
  obtain ⟨nb, hnb⟩ : ∃ nb, ~~~b = nb := ⟨_, rfl⟩
  have hn := fun W => rnot b W
  rw [hnb] at hn
  have HN := Lib.hid hn; have HNB := Lib.hid hnb
  clear hn hnb
  have hA := fun W => rsum s 0 nb true d hd W
  obtain ⟨s2, hs2⟩ : ∃ s2, putS (s.cv (sum3 0 nb true).c (sum3 0 nb true).v) (sum3 0 nb true).w d = s2 := ⟨_, rfl⟩
  rw [hs2] at hA
  have HQ := Lib.hid hs2; have HA := Lib.hid hA
  clear hs2 hA hd
  obtain ⟨hsx, hbel⟩ := sx_new w s
  have HSX := Lib.hid hsx; have HBL := Lib.hid hbel
  clear hsx hbel
  go_enter Tryd.func48, Tryd.ntmps48
  go_wp2_with fail
  obtain ⟨w0, hw0⟩ : ∃ w0, (w.alloc (.cells (sC s) 51)).alloc (.cells #[Value.int .u32 0, Value.int .u32 0, Value.int .u32 0, Value.int .u32 0, Value.int .u32 0, Value.int .u32 0, Value.int .u32 0, Value.int .u32 0, Value.int .u32 0, .bool false, .bool false, .bool false, .bool false] 51) = w0 := ⟨_, rfl⟩
  rw [hw0]
  have hw1 : (w.alloc (.cells (sC s) 51)).alloc (.cells (sC zS) 51) = w0 := hw0
  rw [hw1] at HSX HBL
  clear hw0 hw1
  have HL0 := Lib.hid (show w0.cell? ⟨w.heap.size, 0, none⟩ = some (u (s.r 0)) ∧ w0.cell? ⟨w.heap.size, 1, none⟩ = some (u (s.r 1)) ∧ w0.cell? ⟨w.heap.size, 2, none⟩ = some (u (s.r 2)) ∧ w0.cell? ⟨w.heap.size, 3, none⟩ = some (u (s.r 3)) ∧ w0.cell? ⟨w.heap.size, 4, none⟩ = some (u (s.r 4)) ∧ w0.cell? ⟨w.heap.size, 5, none⟩ = some (u (s.r 5)) ∧ w0.cell? ⟨w.heap.size, 6, none⟩ = some (u (s.r 6)) ∧ w0.cell? ⟨w.heap.size, 7, none⟩ = some (u (s.r 7)) ∧ w0.cell? ⟨w.heap.size, 8, none⟩ = some (u s.pc) ∧ w0.cell? ⟨w.heap.size, 9, none⟩ = some (.bool s.n) ∧ w0.cell? ⟨w.heap.size, 10, none⟩ = some (.bool s.z) ∧ w0.cell? ⟨w.heap.size, 11, none⟩ = some (.bool s.c) ∧ w0.cell? ⟨w.heap.size, 12, none⟩ = some (.bool s.v) from Blk.cells13 HSX.out.b0)
  have HL0d := Lib.hid (show w0.drew.cell? ⟨w.heap.size, 0, none⟩ = some (u (s.r 0)) ∧ w0.drew.cell? ⟨w.heap.size, 1, none⟩ = some (u (s.r 1)) ∧ w0.drew.cell? ⟨w.heap.size, 2, none⟩ = some (u (s.r 2)) ∧ w0.drew.cell? ⟨w.heap.size, 3, none⟩ = some (u (s.r 3)) ∧ w0.drew.cell? ⟨w.heap.size, 4, none⟩ = some (u (s.r 4)) ∧ w0.drew.cell? ⟨w.heap.size, 5, none⟩ = some (u (s.r 5)) ∧ w0.drew.cell? ⟨w.heap.size, 6, none⟩ = some (u (s.r 6)) ∧ w0.drew.cell? ⟨w.heap.size, 7, none⟩ = some (u (s.r 7)) ∧ w0.drew.cell? ⟨w.heap.size, 8, none⟩ = some (u s.pc) ∧ w0.drew.cell? ⟨w.heap.size, 9, none⟩ = some (.bool s.n) ∧ w0.drew.cell? ⟨w.heap.size, 10, none⟩ = some (.bool s.z) ∧ w0.drew.cell? ⟨w.heap.size, 11, none⟩ = some (.bool s.c) ∧ w0.drew.cell? ⟨w.heap.size, 12, none⟩ = some (.bool s.v) from Blk.cells13 HSX.out.b0)
  obtain ⟨n0, n1, n2, n3, n4, n5, n6, n7, n8, n9, n10, n11, n12⟩ := Blk.cells13 HSX.out.b0
  go_region_held3 (fun w' => w'.cell? ⟨w.heap.size, 0, none⟩ = some (u (s.r 0)) ∧ w'.cell? ⟨w.heap.size, 1, none⟩ = some (u (s.r 1)) ∧ w'.cell? ⟨w.heap.size, 2, none⟩ = some (u (s.r 2)) ∧ w'.cell? ⟨w.heap.size, 3, none⟩ = some (u (s.r 3)) ∧ w'.cell? ⟨w.heap.size, 4, none⟩ = some (u (s.r 4)) ∧ w'.cell? ⟨w.heap.size, 5, none⟩ = some (u (s.r 5)) ∧ w'.cell? ⟨w.heap.size, 6, none⟩ = some (u (s.r 6)) ∧ w'.cell? ⟨w.heap.size, 7, none⟩ = some (u (s.r 7)) ∧ w'.cell? ⟨w.heap.size, 8, none⟩ = some (u s.pc) ∧ w'.cell? ⟨w.heap.size, 9, none⟩ = some (.bool s.n) ∧ w'.cell? ⟨w.heap.size, 10, none⟩ = some (.bool s.z) ∧ w'.cell? ⟨w.heap.size, 11, none⟩ = some (.bool s.c) ∧ w'.cell? ⟨w.heap.size, 12, none⟩ = some (.bool s.v)) (first | with_reducible exact HL0.out | with_reducible exact HL0d.out | with_reducible exact HL1.out | with_reducible exact HL3.out) (first | (go_at_call 45; refine (HA.out _).mono ?_; rintro e w1 ⟨rfl, hb⟩; have HS := Lib.hid ((show Sx w s w0.drew from ⟨HSX.out.b0, HSX.out.b1⟩).below hb); have HB := Lib.hid (HBL.out.drew.trans (hb.mono HBL.out.drew.size)); have HL1 := Lib.hid (show w1.cell? ⟨w.heap.size, 0, none⟩ = some (u (s.r 0)) ∧ w1.cell? ⟨w.heap.size, 1, none⟩ = some (u (s.r 1)) ∧ w1.cell? ⟨w.heap.size, 2, none⟩ = some (u (s.r 2)) ∧ w1.cell? ⟨w.heap.size, 3, none⟩ = some (u (s.r 3)) ∧ w1.cell? ⟨w.heap.size, 4, none⟩ = some (u (s.r 4)) ∧ w1.cell? ⟨w.heap.size, 5, none⟩ = some (u (s.r 5)) ∧ w1.cell? ⟨w.heap.size, 6, none⟩ = some (u (s.r 6)) ∧ w1.cell? ⟨w.heap.size, 7, none⟩ = some (u (s.r 7)) ∧ w1.cell? ⟨w.heap.size, 8, none⟩ = some (u s.pc) ∧ w1.cell? ⟨w.heap.size, 9, none⟩ = some (.bool s.n) ∧ w1.cell? ⟨w.heap.size, 10, none⟩ = some (.bool s.z) ∧ w1.cell? ⟨w.heap.size, 11, none⟩ = some (.bool s.c) ∧ w1.cell? ⟨w.heap.size, 12, none⟩ = some (.bool s.v) from Blk.cells13 HS.out.b0); obtain ⟨z0, z1, z2, z3, z4, z5, z6, z7, z8, z9, z10, z11, z12⟩ := Blk.cells13 HS.out.b1; obtain ⟨f0, f1, f2, f3, f4, f5, f6, f7, f8, f9, f10, f11, f12⟩ := Blk.frozen13 HS.out.b1; have HB5 := Lib.hid (blk13 HS.out.b1 s2); have HL3 := Lib.hid (show (put13 w1 (w.heap.size + 1) s2).cell? ⟨w.heap.size, 0, none⟩ = some (u (s.r 0)) ∧ (put13 w1 (w.heap.size + 1) s2).cell? ⟨w.heap.size, 1, none⟩ = some (u (s.r 1)) ∧ (put13 w1 (w.heap.size + 1) s2).cell? ⟨w.heap.size, 2, none⟩ = some (u (s.r 2)) ∧ (put13 w1 (w.heap.size + 1) s2).cell? ⟨w.heap.size, 3, none⟩ = some (u (s.r 3)) ∧ (put13 w1 (w.heap.size + 1) s2).cell? ⟨w.heap.size, 4, none⟩ = some (u (s.r 4)) ∧ (put13 w1 (w.heap.size + 1) s2).cell? ⟨w.heap.size, 5, none⟩ = some (u (s.r 5)) ∧ (put13 w1 (w.heap.size + 1) s2).cell? ⟨w.heap.size, 6, none⟩ = some (u (s.r 6)) ∧ (put13 w1 (w.heap.size + 1) s2).cell? ⟨w.heap.size, 7, none⟩ = some (u (s.r 7)) ∧ (put13 w1 (w.heap.size + 1) s2).cell? ⟨w.heap.size, 8, none⟩ = some (u s.pc) ∧ (put13 w1 (w.heap.size + 1) s2).cell? ⟨w.heap.size, 9, none⟩ = some (.bool s.n) ∧ (put13 w1 (w.heap.size + 1) s2).cell? ⟨w.heap.size, 10, none⟩ = some (.bool s.z) ∧ (put13 w1 (w.heap.size + 1) s2).cell? ⟨w.heap.size, 11, none⟩ = some (.bool s.c) ∧ (put13 w1 (w.heap.size + 1) s2).cell? ⟨w.heap.size, 12, none⟩ = some (.bool s.v) from Blk.cells13 (HS.out.b0.upd HB5.out.2 (by omega))); clear hb) | (go_at_call 46; refine (HN.out _).mono ?_; rintro e w9 ⟨rfl, rfl⟩))
  obtain ⟨hB, hU⟩ := HB5.out
  have HL := Lib.hid (upd_low HB.out hU (by omega))
  clear HL0 HL0d HL1 HL3 HB5 HB n0 n1 n2 n3 n4 n5 n6 n7 n8 n9 n10 n11 n12 z0 z1 z2 z3 z4 z5 z6 z7 z8 z9 z10 z11 z12 f0 f1 f2 f3 f4 f5 f6 f7 f8 f9 f10 f11 f12 hU
  obtain ⟨w8, hw8⟩ : ∃ w8, put13 w1 (w.heap.size + 1) s2 = w8 := ⟨_, rfl⟩
  rw [hw8] at hB HL
  simp only [put13] at hw8
  rw [hw8]
  clear hw8
  obtain ⟨n0, n1, n2, n3, n4, n5, n6, n7, n8, n9, n10, n11, n12⟩ := Blk.cells13 hB
  go_wp2_with fail
  exact bodyPost_ret (v := sv s2) (by simp [results, Tryd.results48, go_sem, n0, n1, n2, n3, n4, n5, n6, n7, n8, n9, n10, n11, n12]) rfl ⟨by rw [← HQ.out, ← HNB.out]; rfl, HL.out⟩
set_option maxRecDepth 100000 in
set_option maxHeartbeats 2000000 in
theorem ralu10 (s : S) (d : Int) (hd : DOk d) (a b : BitVec 32) (w : World) : Calls Tryd.prog 48 #[sv s, .int .i64 10, .int .i64 d, u a, u b] w fun e w' => e = .returned (sv (outS s (alu3 10 a b s.c s.v) (-1))) ∧ Below w.heap.size w w' := by
  have ha1 := bd a; have hb1 := bd b
  obtain ⟨nb, hnb⟩ : ∃ nb, ~~~b = nb := ⟨_, rfl⟩
  have hn := fun W => rnot b W
  rw [hnb] at hn
  have HN := Lib.hid hn; have HNB := Lib.hid hnb
  clear hn hnb
  have hA := fun W => rsum s a nb true (-1) (.inl rfl) W
  obtain ⟨s2, hs2⟩ : ∃ s2, putS (s.cv (sum3 a nb true).c (sum3 a nb true).v) (sum3 a nb true).w (-1) = s2 := ⟨_, rfl⟩
  rw [hs2] at hA
  have HQ := Lib.hid hs2; have HA := Lib.hid hA
  clear hs2 hA hd
  obtain ⟨hsx, hbel⟩ := sx_new w s
  have HSX := Lib.hid hsx; have HBL := Lib.hid hbel
  clear hsx hbel
  go_enter Tryd.func48, Tryd.ntmps48
  go_wp2_with fail
  obtain ⟨w0, hw0⟩ : ∃ w0, (w.alloc (.cells (sC s) 51)).alloc (.cells #[Value.int .u32 0, Value.int .u32 0, Value.int .u32 0, Value.int .u32 0, Value.int .u32 0, Value.int .u32 0, Value.int .u32 0, Value.int .u32 0, Value.int .u32 0, .bool false, .bool false, .bool false, .bool false] 51) = w0 := ⟨_, rfl⟩
  rw [hw0]
  have hw1 : (w.alloc (.cells (sC s) 51)).alloc (.cells (sC zS) 51) = w0 := hw0
  rw [hw1] at HSX HBL
  clear hw0 hw1
  have HL0 := Lib.hid (show w0.cell? ⟨w.heap.size, 0, none⟩ = some (u (s.r 0)) ∧ w0.cell? ⟨w.heap.size, 1, none⟩ = some (u (s.r 1)) ∧ w0.cell? ⟨w.heap.size, 2, none⟩ = some (u (s.r 2)) ∧ w0.cell? ⟨w.heap.size, 3, none⟩ = some (u (s.r 3)) ∧ w0.cell? ⟨w.heap.size, 4, none⟩ = some (u (s.r 4)) ∧ w0.cell? ⟨w.heap.size, 5, none⟩ = some (u (s.r 5)) ∧ w0.cell? ⟨w.heap.size, 6, none⟩ = some (u (s.r 6)) ∧ w0.cell? ⟨w.heap.size, 7, none⟩ = some (u (s.r 7)) ∧ w0.cell? ⟨w.heap.size, 8, none⟩ = some (u s.pc) ∧ w0.cell? ⟨w.heap.size, 9, none⟩ = some (.bool s.n) ∧ w0.cell? ⟨w.heap.size, 10, none⟩ = some (.bool s.z) ∧ w0.cell? ⟨w.heap.size, 11, none⟩ = some (.bool s.c) ∧ w0.cell? ⟨w.heap.size, 12, none⟩ = some (.bool s.v) from Blk.cells13 HSX.out.b0)
  have HL0d := Lib.hid (show w0.drew.cell? ⟨w.heap.size, 0, none⟩ = some (u (s.r 0)) ∧ w0.drew.cell? ⟨w.heap.size, 1, none⟩ = some (u (s.r 1)) ∧ w0.drew.cell? ⟨w.heap.size, 2, none⟩ = some (u (s.r 2)) ∧ w0.drew.cell? ⟨w.heap.size, 3, none⟩ = some (u (s.r 3)) ∧ w0.drew.cell? ⟨w.heap.size, 4, none⟩ = some (u (s.r 4)) ∧ w0.drew.cell? ⟨w.heap.size, 5, none⟩ = some (u (s.r 5)) ∧ w0.drew.cell? ⟨w.heap.size, 6, none⟩ = some (u (s.r 6)) ∧ w0.drew.cell? ⟨w.heap.size, 7, none⟩ = some (u (s.r 7)) ∧ w0.drew.cell? ⟨w.heap.size, 8, none⟩ = some (u s.pc) ∧ w0.drew.cell? ⟨w.heap.size, 9, none⟩ = some (.bool s.n) ∧ w0.drew.cell? ⟨w.heap.size, 10, none⟩ = some (.bool s.z) ∧ w0.drew.cell? ⟨w.heap.size, 11, none⟩ = some (.bool s.c) ∧ w0.drew.cell? ⟨w.heap.size, 12, none⟩ = some (.bool s.v) from Blk.cells13 HSX.out.b0)
  obtain ⟨n0, n1, n2, n3, n4, n5, n6, n7, n8, n9, n10, n11, n12⟩ := Blk.cells13 HSX.out.b0
  go_region_held3 (fun w' => w'.cell? ⟨w.heap.size, 0, none⟩ = some (u (s.r 0)) ∧ w'.cell? ⟨w.heap.size, 1, none⟩ = some (u (s.r 1)) ∧ w'.cell? ⟨w.heap.size, 2, none⟩ = some (u (s.r 2)) ∧ w'.cell? ⟨w.heap.size, 3, none⟩ = some (u (s.r 3)) ∧ w'.cell? ⟨w.heap.size, 4, none⟩ = some (u (s.r 4)) ∧ w'.cell? ⟨w.heap.size, 5, none⟩ = some (u (s.r 5)) ∧ w'.cell? ⟨w.heap.size, 6, none⟩ = some (u (s.r 6)) ∧ w'.cell? ⟨w.heap.size, 7, none⟩ = some (u (s.r 7)) ∧ w'.cell? ⟨w.heap.size, 8, none⟩ = some (u s.pc) ∧ w'.cell? ⟨w.heap.size, 9, none⟩ = some (.bool s.n) ∧ w'.cell? ⟨w.heap.size, 10, none⟩ = some (.bool s.z) ∧ w'.cell? ⟨w.heap.size, 11, none⟩ = some (.bool s.c) ∧ w'.cell? ⟨w.heap.size, 12, none⟩ = some (.bool s.v)) (first | with_reducible exact HL0.out | with_reducible exact HL0d.out | with_reducible exact HL1.out | with_reducible exact HL3.out) (first | (go_at_call 45; refine (HA.out _).mono ?_; rintro e w1 ⟨rfl, hb⟩; have HS := Lib.hid ((show Sx w s w0.drew from ⟨HSX.out.b0, HSX.out.b1⟩).below hb); have HB := Lib.hid (HBL.out.drew.trans (hb.mono HBL.out.drew.size)); have HL1 := Lib.hid (show w1.cell? ⟨w.heap.size, 0, none⟩ = some (u (s.r 0)) ∧ w1.cell? ⟨w.heap.size, 1, none⟩ = some (u (s.r 1)) ∧ w1.cell? ⟨w.heap.size, 2, none⟩ = some (u (s.r 2)) ∧ w1.cell? ⟨w.heap.size, 3, none⟩ = some (u (s.r 3)) ∧ w1.cell? ⟨w.heap.size, 4, none⟩ = some (u (s.r 4)) ∧ w1.cell? ⟨w.heap.size, 5, none⟩ = some (u (s.r 5)) ∧ w1.cell? ⟨w.heap.size, 6, none⟩ = some (u (s.r 6)) ∧ w1.cell? ⟨w.heap.size, 7, none⟩ = some (u (s.r 7)) ∧ w1.cell? ⟨w.heap.size, 8, none⟩ = some (u s.pc) ∧ w1.cell? ⟨w.heap.size, 9, none⟩ = some (.bool s.n) ∧ w1.cell? ⟨w.heap.size, 10, none⟩ = some (.bool s.z) ∧ w1.cell? ⟨w.heap.size, 11, none⟩ = some (.bool s.c) ∧ w1.cell? ⟨w.heap.size, 12, none⟩ = some (.bool s.v) from Blk.cells13 HS.out.b0); obtain ⟨z0, z1, z2, z3, z4, z5, z6, z7, z8, z9, z10, z11, z12⟩ := Blk.cells13 HS.out.b1; obtain ⟨f0, f1, f2, f3, f4, f5, f6, f7, f8, f9, f10, f11, f12⟩ := Blk.frozen13 HS.out.b1; have HB5 := Lib.hid (blk13 HS.out.b1 s2); have HL3 := Lib.hid (show (put13 w1 (w.heap.size + 1) s2).cell? ⟨w.heap.size, 0, none⟩ = some (u (s.r 0)) ∧ (put13 w1 (w.heap.size + 1) s2).cell? ⟨w.heap.size, 1, none⟩ = some (u (s.r 1)) ∧ (put13 w1 (w.heap.size + 1) s2).cell? ⟨w.heap.size, 2, none⟩ = some (u (s.r 2)) ∧ (put13 w1 (w.heap.size + 1) s2).cell? ⟨w.heap.size, 3, none⟩ = some (u (s.r 3)) ∧ (put13 w1 (w.heap.size + 1) s2).cell? ⟨w.heap.size, 4, none⟩ = some (u (s.r 4)) ∧ (put13 w1 (w.heap.size + 1) s2).cell? ⟨w.heap.size, 5, none⟩ = some (u (s.r 5)) ∧ (put13 w1 (w.heap.size + 1) s2).cell? ⟨w.heap.size, 6, none⟩ = some (u (s.r 6)) ∧ (put13 w1 (w.heap.size + 1) s2).cell? ⟨w.heap.size, 7, none⟩ = some (u (s.r 7)) ∧ (put13 w1 (w.heap.size + 1) s2).cell? ⟨w.heap.size, 8, none⟩ = some (u s.pc) ∧ (put13 w1 (w.heap.size + 1) s2).cell? ⟨w.heap.size, 9, none⟩ = some (.bool s.n) ∧ (put13 w1 (w.heap.size + 1) s2).cell? ⟨w.heap.size, 10, none⟩ = some (.bool s.z) ∧ (put13 w1 (w.heap.size + 1) s2).cell? ⟨w.heap.size, 11, none⟩ = some (.bool s.c) ∧ (put13 w1 (w.heap.size + 1) s2).cell? ⟨w.heap.size, 12, none⟩ = some (.bool s.v) from Blk.cells13 (HS.out.b0.upd HB5.out.2 (by omega))); clear hb) | (go_at_call 46; refine (HN.out _).mono ?_; rintro e w9 ⟨rfl, rfl⟩))
  obtain ⟨hB, hU⟩ := HB5.out
  have HL := Lib.hid (upd_low HB.out hU (by omega))
  clear HL0 HL0d HL1 HL3 HB5 HB n0 n1 n2 n3 n4 n5 n6 n7 n8 n9 n10 n11 n12 z0 z1 z2 z3 z4 z5 z6 z7 z8 z9 z10 z11 z12 f0 f1 f2 f3 f4 f5 f6 f7 f8 f9 f10 f11 f12 hU
  obtain ⟨w8, hw8⟩ : ∃ w8, put13 w1 (w.heap.size + 1) s2 = w8 := ⟨_, rfl⟩
  rw [hw8] at hB HL
  simp only [put13] at hw8
  rw [hw8]
  clear hw8
  obtain ⟨n0, n1, n2, n3, n4, n5, n6, n7, n8, n9, n10, n11, n12⟩ := Blk.cells13 hB
  go_wp2_with fail
  exact bodyPost_ret (v := sv s2) (by simp [results, Tryd.results48, go_sem, n0, n1, n2, n3, n4, n5, n6, n7, n8, n9, n10, n11, n12]) rfl ⟨by rw [← HQ.out, ← HNB.out]; rfl, HL.out⟩
set_option maxRecDepth 100000 in
set_option maxHeartbeats 2000000 in
theorem ralu11 (s : S) (d : Int) (hd : DOk d) (a b : BitVec 32) (w : World) : Calls Tryd.prog 48 #[sv s, .int .i64 11, .int .i64 d, u a, u b] w fun e w' => e = .returned (sv (outS s (alu3 11 a b s.c s.v) (-1))) ∧ Below w.heap.size w w' := by
  have ha1 := bd a; have hb1 := bd b
  have hA := fun W => rsum s a b false (-1) (.inl rfl) W
  obtain ⟨s2, hs2⟩ : ∃ s2, putS (s.cv (sum3 a b false).c (sum3 a b false).v) (sum3 a b false).w (-1) = s2 := ⟨_, rfl⟩
  rw [hs2] at hA
  have HQ := Lib.hid hs2; have HA := Lib.hid hA
  clear hs2 hA hd
  obtain ⟨hsx, hbel⟩ := sx_new w s
  have HSX := Lib.hid hsx; have HBL := Lib.hid hbel
  clear hsx hbel
  go_enter Tryd.func48, Tryd.ntmps48
  go_wp2_with fail
  refine (HA.out _).mono ?_
  rintro e w1 ⟨rfl, hb⟩
  have HS := Lib.hid (HSX.out.below hb)
  have HB := Lib.hid (HBL.out.trans (hb.mono HBL.out.size))
  clear hb HA HSX HBL
  obtain ⟨z0, z1, z2, z3, z4, z5, z6, z7, z8, z9, z10, z11, z12⟩ := Blk.cells13 HS.out.b1
  obtain ⟨f0, f1, f2, f3, f4, f5, f6, f7, f8, f9, f10, f11, f12⟩ := Blk.frozen13 HS.out.b1
  go_wp2_with fail
  clear z0 z1 z2 z3 z4 z5 z6 z7 z8 z9 z10 z11 z12 f0 f1 f2 f3 f4 f5 f6 f7 f8 f9 f10 f11 f12
  obtain ⟨hB, hU⟩ := blk13 HS.out.b1 s2
  have HL := Lib.hid (upd_low HB.out hU (by omega))
  obtain ⟨w8, hw8⟩ : ∃ w8, put13 w1 (w.heap.size + 1) s2 = w8 := ⟨_, rfl⟩
  rw [hw8] at hB HL
  simp only [put13] at hw8
  rw [hw8]
  clear hw8 hU
  obtain ⟨n0, n1, n2, n3, n4, n5, n6, n7, n8, n9, n10, n11, n12⟩ := Blk.cells13 hB
  exact bodyPost_ret (v := sv s2) (by simp [results, Tryd.results48, go_sem, n0, n1, n2, n3, n4, n5, n6, n7, n8, n9, n10, n11, n12]) rfl ⟨by rw [← HQ.out]; rfl, HL.out⟩
set_option maxRecDepth 100000 in
set_option maxHeartbeats 2000000 in
theorem ralu12 (s : S) (d : Int) (hd : DOk d) (a b : BitVec 32) (w : World) : Calls Tryd.prog 48 #[sv s, .int .i64 12, .int .i64 d, u a, u b] w fun e w' => e = .returned (sv (outS s (alu3 12 a b s.c s.v) d)) ∧ Below w.heap.size w w' := by
  have ha1 := bd a; have hb1 := bd b
  have hx := b_or a b
  have hA := fun W => rput s (a ||| b) d hd W
  obtain ⟨s2, hs2⟩ : ∃ s2, putS s (a ||| b) d = s2 := ⟨_, rfl⟩
  rw [hs2] at hA
  generalize a ||| b = y at hx hA
  have HQ := Lib.hid hs2; have HA := Lib.hid hA
  clear hs2 hA hd
  obtain ⟨hsx, hbel⟩ := sx_new w s
  have HSX := Lib.hid hsx; have HBL := Lib.hid hbel
  clear hsx hbel
  go_enter Tryd.func48, Tryd.ntmps48
  go_wp2_with fail
  refine (HA.out _).mono ?_
  rintro e w1 ⟨rfl, hb⟩
  have HS := Lib.hid (HSX.out.below hb)
  have HB := Lib.hid (HBL.out.trans (hb.mono HBL.out.size))
  clear hb HA HSX HBL
  obtain ⟨z0, z1, z2, z3, z4, z5, z6, z7, z8, z9, z10, z11, z12⟩ := Blk.cells13 HS.out.b1
  obtain ⟨f0, f1, f2, f3, f4, f5, f6, f7, f8, f9, f10, f11, f12⟩ := Blk.frozen13 HS.out.b1
  go_wp2_with fail
  clear z0 z1 z2 z3 z4 z5 z6 z7 z8 z9 z10 z11 z12 f0 f1 f2 f3 f4 f5 f6 f7 f8 f9 f10 f11 f12
  obtain ⟨hB, hU⟩ := blk13 HS.out.b1 s2
  have HL := Lib.hid (upd_low HB.out hU (by omega))
  obtain ⟨w8, hw8⟩ : ∃ w8, put13 w1 (w.heap.size + 1) s2 = w8 := ⟨_, rfl⟩
  rw [hw8] at hB HL
  simp only [put13] at hw8
  rw [hw8]
  clear hw8 hU
  obtain ⟨n0, n1, n2, n3, n4, n5, n6, n7, n8, n9, n10, n11, n12⟩ := Blk.cells13 hB
  exact bodyPost_ret (v := sv s2) (by simp [results, Tryd.results48, go_sem, n0, n1, n2, n3, n4, n5, n6, n7, n8, n9, n10, n11, n12]) rfl ⟨by rw [← HQ.out]; rfl, HL.out⟩
set_option maxRecDepth 100000 in
set_option maxHeartbeats 2000000 in
theorem ralu13 (s : S) (d : Int) (hd : DOk d) (a b : BitVec 32) (w : World) : Calls Tryd.prog 48 #[sv s, .int .i64 13, .int .i64 d, u a, u b] w fun e w' => e = .returned (sv (outS s (alu3 13 a b s.c s.v) d)) ∧ Below w.heap.size w w' := by
  have ha1 := bd a; have hb1 := bd b
  have hx : IntKind.u32.wrap ((a.toNat : Int) * (b.toNat : Int)) = ((a * b).toNat : Int) := by rw [IntKind.wrap_u32, BitVec.toNat_mul, Int.natCast_emod, Int.natCast_mul]; rfl
  have hx2 : ((a.toNat : Int) * (b.toNat : Int)) % 4294967296 = ((a * b).toNat : Int) := by rw [BitVec.toNat_mul, Int.natCast_emod, Int.natCast_mul]; rfl
  have hA := fun W => rput s (a * b) d hd W
  obtain ⟨s2, hs2⟩ : ∃ s2, putS s (a * b) d = s2 := ⟨_, rfl⟩
  rw [hs2] at hA
  generalize a * b = y at hx hx2 hA
  have HQ := Lib.hid hs2; have HA := Lib.hid hA
  clear hs2 hA hd
  obtain ⟨hsx, hbel⟩ := sx_new w s
  have HSX := Lib.hid hsx; have HBL := Lib.hid hbel
  clear hsx hbel
  go_enter Tryd.func48, Tryd.ntmps48
  go_wp2_with fail
  refine (HA.out _).mono ?_
  rintro e w1 ⟨rfl, hb⟩
  have HS := Lib.hid (HSX.out.below hb)
  have HB := Lib.hid (HBL.out.trans (hb.mono HBL.out.size))
  clear hb HA HSX HBL
  obtain ⟨z0, z1, z2, z3, z4, z5, z6, z7, z8, z9, z10, z11, z12⟩ := Blk.cells13 HS.out.b1
  obtain ⟨f0, f1, f2, f3, f4, f5, f6, f7, f8, f9, f10, f11, f12⟩ := Blk.frozen13 HS.out.b1
  go_wp2_with fail
  clear z0 z1 z2 z3 z4 z5 z6 z7 z8 z9 z10 z11 z12 f0 f1 f2 f3 f4 f5 f6 f7 f8 f9 f10 f11 f12
  obtain ⟨hB, hU⟩ := blk13 HS.out.b1 s2
  have HL := Lib.hid (upd_low HB.out hU (by omega))
  obtain ⟨w8, hw8⟩ : ∃ w8, put13 w1 (w.heap.size + 1) s2 = w8 := ⟨_, rfl⟩
  rw [hw8] at hB HL
  simp only [put13] at hw8
  rw [hw8]
  clear hw8 hU
  obtain ⟨n0, n1, n2, n3, n4, n5, n6, n7, n8, n9, n10, n11, n12⟩ := Blk.cells13 hB
  exact bodyPost_ret (v := sv s2) (by simp [results, Tryd.results48, go_sem, n0, n1, n2, n3, n4, n5, n6, n7, n8, n9, n10, n11, n12]) rfl ⟨by rw [← HQ.out]; rfl, HL.out⟩
set_option maxRecDepth 100000 in
set_option maxHeartbeats 2000000 in
theorem ralu14 (s : S) (d : Int) (hd : DOk d) (a b : BitVec 32) (w : World) : Calls Tryd.prog 48 #[sv s, .int .i64 14, .int .i64 d, u a, u b] w fun e w' => e = .returned (sv (outS s (alu3 14 a b s.c s.v) d)) ∧ Below w.heap.size w w' := by
  have ha1 := bd a; have hb1 := bd b
  obtain ⟨nb, hnb⟩ : ∃ nb, ~~~b = nb := ⟨_, rfl⟩
  have hn := fun W => rnot b W
  rw [hnb] at hn
  have HN := Lib.hid hn; have HNB := Lib.hid hnb
  clear hn hnb
  have hx := b_and a nb
  have hA := fun W => rput s (a &&& nb) d hd W
  obtain ⟨s2, hs2⟩ : ∃ s2, putS s (a &&& nb) d = s2 := ⟨_, rfl⟩
  rw [hs2] at hA
  have HQ := Lib.hid hs2; have HA := Lib.hid hA
  clear hs2 hA hd
  obtain ⟨hsx, hbel⟩ := sx_new w s
  have HSX := Lib.hid hsx; have HBL := Lib.hid hbel
  clear hsx hbel
  go_enter Tryd.func48, Tryd.ntmps48
  go_wp2_with fail
  obtain ⟨w0, hw0⟩ : ∃ w0, (w.alloc (.cells (sC s) 51)).alloc (.cells #[Value.int .u32 0, Value.int .u32 0, Value.int .u32 0, Value.int .u32 0, Value.int .u32 0, Value.int .u32 0, Value.int .u32 0, Value.int .u32 0, Value.int .u32 0, .bool false, .bool false, .bool false, .bool false] 51) = w0 := ⟨_, rfl⟩
  rw [hw0]
  have hw1 : (w.alloc (.cells (sC s) 51)).alloc (.cells (sC zS) 51) = w0 := hw0
  rw [hw1] at HSX HBL
  clear hw0 hw1
  have HL0 := Lib.hid (show w0.cell? ⟨w.heap.size, 0, none⟩ = some (u (s.r 0)) ∧ w0.cell? ⟨w.heap.size, 1, none⟩ = some (u (s.r 1)) ∧ w0.cell? ⟨w.heap.size, 2, none⟩ = some (u (s.r 2)) ∧ w0.cell? ⟨w.heap.size, 3, none⟩ = some (u (s.r 3)) ∧ w0.cell? ⟨w.heap.size, 4, none⟩ = some (u (s.r 4)) ∧ w0.cell? ⟨w.heap.size, 5, none⟩ = some (u (s.r 5)) ∧ w0.cell? ⟨w.heap.size, 6, none⟩ = some (u (s.r 6)) ∧ w0.cell? ⟨w.heap.size, 7, none⟩ = some (u (s.r 7)) ∧ w0.cell? ⟨w.heap.size, 8, none⟩ = some (u s.pc) ∧ w0.cell? ⟨w.heap.size, 9, none⟩ = some (.bool s.n) ∧ w0.cell? ⟨w.heap.size, 10, none⟩ = some (.bool s.z) ∧ w0.cell? ⟨w.heap.size, 11, none⟩ = some (.bool s.c) ∧ w0.cell? ⟨w.heap.size, 12, none⟩ = some (.bool s.v) from Blk.cells13 HSX.out.b0)
  have HL0d := Lib.hid (show w0.drew.cell? ⟨w.heap.size, 0, none⟩ = some (u (s.r 0)) ∧ w0.drew.cell? ⟨w.heap.size, 1, none⟩ = some (u (s.r 1)) ∧ w0.drew.cell? ⟨w.heap.size, 2, none⟩ = some (u (s.r 2)) ∧ w0.drew.cell? ⟨w.heap.size, 3, none⟩ = some (u (s.r 3)) ∧ w0.drew.cell? ⟨w.heap.size, 4, none⟩ = some (u (s.r 4)) ∧ w0.drew.cell? ⟨w.heap.size, 5, none⟩ = some (u (s.r 5)) ∧ w0.drew.cell? ⟨w.heap.size, 6, none⟩ = some (u (s.r 6)) ∧ w0.drew.cell? ⟨w.heap.size, 7, none⟩ = some (u (s.r 7)) ∧ w0.drew.cell? ⟨w.heap.size, 8, none⟩ = some (u s.pc) ∧ w0.drew.cell? ⟨w.heap.size, 9, none⟩ = some (.bool s.n) ∧ w0.drew.cell? ⟨w.heap.size, 10, none⟩ = some (.bool s.z) ∧ w0.drew.cell? ⟨w.heap.size, 11, none⟩ = some (.bool s.c) ∧ w0.drew.cell? ⟨w.heap.size, 12, none⟩ = some (.bool s.v) from Blk.cells13 HSX.out.b0)
  obtain ⟨n0, n1, n2, n3, n4, n5, n6, n7, n8, n9, n10, n11, n12⟩ := Blk.cells13 HSX.out.b0
  go_region_held3 (fun w' => w'.cell? ⟨w.heap.size, 0, none⟩ = some (u (s.r 0)) ∧ w'.cell? ⟨w.heap.size, 1, none⟩ = some (u (s.r 1)) ∧ w'.cell? ⟨w.heap.size, 2, none⟩ = some (u (s.r 2)) ∧ w'.cell? ⟨w.heap.size, 3, none⟩ = some (u (s.r 3)) ∧ w'.cell? ⟨w.heap.size, 4, none⟩ = some (u (s.r 4)) ∧ w'.cell? ⟨w.heap.size, 5, none⟩ = some (u (s.r 5)) ∧ w'.cell? ⟨w.heap.size, 6, none⟩ = some (u (s.r 6)) ∧ w'.cell? ⟨w.heap.size, 7, none⟩ = some (u (s.r 7)) ∧ w'.cell? ⟨w.heap.size, 8, none⟩ = some (u s.pc) ∧ w'.cell? ⟨w.heap.size, 9, none⟩ = some (.bool s.n) ∧ w'.cell? ⟨w.heap.size, 10, none⟩ = some (.bool s.z) ∧ w'.cell? ⟨w.heap.size, 11, none⟩ = some (.bool s.c) ∧ w'.cell? ⟨w.heap.size, 12, none⟩ = some (.bool s.v)) (first | with_reducible exact HL0.out | with_reducible exact HL0d.out | with_reducible exact HL1.out | with_reducible exact HL3.out) (first | (go_at_call 44; refine (HA.out _).mono ?_; rintro e w1 ⟨rfl, hb⟩; have HS := Lib.hid ((show Sx w s w0.drew from ⟨HSX.out.b0, HSX.out.b1⟩).below hb); have HB := Lib.hid (HBL.out.drew.trans (hb.mono HBL.out.drew.size)); have HL1 := Lib.hid (show w1.cell? ⟨w.heap.size, 0, none⟩ = some (u (s.r 0)) ∧ w1.cell? ⟨w.heap.size, 1, none⟩ = some (u (s.r 1)) ∧ w1.cell? ⟨w.heap.size, 2, none⟩ = some (u (s.r 2)) ∧ w1.cell? ⟨w.heap.size, 3, none⟩ = some (u (s.r 3)) ∧ w1.cell? ⟨w.heap.size, 4, none⟩ = some (u (s.r 4)) ∧ w1.cell? ⟨w.heap.size, 5, none⟩ = some (u (s.r 5)) ∧ w1.cell? ⟨w.heap.size, 6, none⟩ = some (u (s.r 6)) ∧ w1.cell? ⟨w.heap.size, 7, none⟩ = some (u (s.r 7)) ∧ w1.cell? ⟨w.heap.size, 8, none⟩ = some (u s.pc) ∧ w1.cell? ⟨w.heap.size, 9, none⟩ = some (.bool s.n) ∧ w1.cell? ⟨w.heap.size, 10, none⟩ = some (.bool s.z) ∧ w1.cell? ⟨w.heap.size, 11, none⟩ = some (.bool s.c) ∧ w1.cell? ⟨w.heap.size, 12, none⟩ = some (.bool s.v) from Blk.cells13 HS.out.b0); obtain ⟨z0, z1, z2, z3, z4, z5, z6, z7, z8, z9, z10, z11, z12⟩ := Blk.cells13 HS.out.b1; obtain ⟨f0, f1, f2, f3, f4, f5, f6, f7, f8, f9, f10, f11, f12⟩ := Blk.frozen13 HS.out.b1; have HB5 := Lib.hid (blk13 HS.out.b1 s2); have HL3 := Lib.hid (show (put13 w1 (w.heap.size + 1) s2).cell? ⟨w.heap.size, 0, none⟩ = some (u (s.r 0)) ∧ (put13 w1 (w.heap.size + 1) s2).cell? ⟨w.heap.size, 1, none⟩ = some (u (s.r 1)) ∧ (put13 w1 (w.heap.size + 1) s2).cell? ⟨w.heap.size, 2, none⟩ = some (u (s.r 2)) ∧ (put13 w1 (w.heap.size + 1) s2).cell? ⟨w.heap.size, 3, none⟩ = some (u (s.r 3)) ∧ (put13 w1 (w.heap.size + 1) s2).cell? ⟨w.heap.size, 4, none⟩ = some (u (s.r 4)) ∧ (put13 w1 (w.heap.size + 1) s2).cell? ⟨w.heap.size, 5, none⟩ = some (u (s.r 5)) ∧ (put13 w1 (w.heap.size + 1) s2).cell? ⟨w.heap.size, 6, none⟩ = some (u (s.r 6)) ∧ (put13 w1 (w.heap.size + 1) s2).cell? ⟨w.heap.size, 7, none⟩ = some (u (s.r 7)) ∧ (put13 w1 (w.heap.size + 1) s2).cell? ⟨w.heap.size, 8, none⟩ = some (u s.pc) ∧ (put13 w1 (w.heap.size + 1) s2).cell? ⟨w.heap.size, 9, none⟩ = some (.bool s.n) ∧ (put13 w1 (w.heap.size + 1) s2).cell? ⟨w.heap.size, 10, none⟩ = some (.bool s.z) ∧ (put13 w1 (w.heap.size + 1) s2).cell? ⟨w.heap.size, 11, none⟩ = some (.bool s.c) ∧ (put13 w1 (w.heap.size + 1) s2).cell? ⟨w.heap.size, 12, none⟩ = some (.bool s.v) from Blk.cells13 (HS.out.b0.upd HB5.out.2 (by omega))); clear hb) | (go_at_call 46; refine (HN.out _).mono ?_; rintro e w9 ⟨rfl, rfl⟩))
  obtain ⟨hB, hU⟩ := HB5.out
  have HL := Lib.hid (upd_low HB.out hU (by omega))
  clear HL0 HL0d HL1 HL3 HB5 HB n0 n1 n2 n3 n4 n5 n6 n7 n8 n9 n10 n11 n12 z0 z1 z2 z3 z4 z5 z6 z7 z8 z9 z10 z11 z12 f0 f1 f2 f3 f4 f5 f6 f7 f8 f9 f10 f11 f12 hU
  obtain ⟨w8, hw8⟩ : ∃ w8, put13 w1 (w.heap.size + 1) s2 = w8 := ⟨_, rfl⟩
  rw [hw8] at hB HL
  simp only [put13] at hw8
  rw [hw8]
  clear hw8
  obtain ⟨n0, n1, n2, n3, n4, n5, n6, n7, n8, n9, n10, n11, n12⟩ := Blk.cells13 hB
  go_wp2_with fail
  exact bodyPost_ret (v := sv s2) (by simp [results, Tryd.results48, go_sem, n0, n1, n2, n3, n4, n5, n6, n7, n8, n9, n10, n11, n12]) rfl ⟨by rw [← HQ.out, ← HNB.out]; rfl, HL.out⟩
set_option maxRecDepth 100000 in
set_option maxHeartbeats 2000000 in
theorem ralu15 (s : S) (d : Int) (hd : DOk d) (a b : BitVec 32) (w : World) : Calls Tryd.prog 48 #[sv s, .int .i64 15, .int .i64 d, u a, u b] w fun e w' => e = .returned (sv (outS s (alu3 15 a b s.c s.v) d)) ∧ Below w.heap.size w w' := by
  have ha1 := bd a; have hb1 := bd b
  obtain ⟨nb, hnb⟩ : ∃ nb, ~~~b = nb := ⟨_, rfl⟩
  have hn := fun W => rnot b W
  rw [hnb] at hn
  have HN := Lib.hid hn; have HNB := Lib.hid hnb
  clear hn hnb
  have hA := fun W => rput s nb d hd W
  obtain ⟨s2, hs2⟩ : ∃ s2, putS s nb d = s2 := ⟨_, rfl⟩
  rw [hs2] at hA
  have HQ := Lib.hid hs2; have HA := Lib.hid hA
  clear hs2 hA hd
  obtain ⟨hsx, hbel⟩ := sx_new w s
  have HSX := Lib.hid hsx; have HBL := Lib.hid hbel
  clear hsx hbel
  go_enter Tryd.func48, Tryd.ntmps48
  go_wp2_with fail
  obtain ⟨w0, hw0⟩ : ∃ w0, (w.alloc (.cells (sC s) 51)).alloc (.cells #[Value.int .u32 0, Value.int .u32 0, Value.int .u32 0, Value.int .u32 0, Value.int .u32 0, Value.int .u32 0, Value.int .u32 0, Value.int .u32 0, Value.int .u32 0, .bool false, .bool false, .bool false, .bool false] 51) = w0 := ⟨_, rfl⟩
  rw [hw0]
  have hw1 : (w.alloc (.cells (sC s) 51)).alloc (.cells (sC zS) 51) = w0 := hw0
  rw [hw1] at HSX HBL
  clear hw0 hw1
  have HL0 := Lib.hid (show w0.cell? ⟨w.heap.size, 0, none⟩ = some (u (s.r 0)) ∧ w0.cell? ⟨w.heap.size, 1, none⟩ = some (u (s.r 1)) ∧ w0.cell? ⟨w.heap.size, 2, none⟩ = some (u (s.r 2)) ∧ w0.cell? ⟨w.heap.size, 3, none⟩ = some (u (s.r 3)) ∧ w0.cell? ⟨w.heap.size, 4, none⟩ = some (u (s.r 4)) ∧ w0.cell? ⟨w.heap.size, 5, none⟩ = some (u (s.r 5)) ∧ w0.cell? ⟨w.heap.size, 6, none⟩ = some (u (s.r 6)) ∧ w0.cell? ⟨w.heap.size, 7, none⟩ = some (u (s.r 7)) ∧ w0.cell? ⟨w.heap.size, 8, none⟩ = some (u s.pc) ∧ w0.cell? ⟨w.heap.size, 9, none⟩ = some (.bool s.n) ∧ w0.cell? ⟨w.heap.size, 10, none⟩ = some (.bool s.z) ∧ w0.cell? ⟨w.heap.size, 11, none⟩ = some (.bool s.c) ∧ w0.cell? ⟨w.heap.size, 12, none⟩ = some (.bool s.v) from Blk.cells13 HSX.out.b0)
  have HL0d := Lib.hid (show w0.drew.cell? ⟨w.heap.size, 0, none⟩ = some (u (s.r 0)) ∧ w0.drew.cell? ⟨w.heap.size, 1, none⟩ = some (u (s.r 1)) ∧ w0.drew.cell? ⟨w.heap.size, 2, none⟩ = some (u (s.r 2)) ∧ w0.drew.cell? ⟨w.heap.size, 3, none⟩ = some (u (s.r 3)) ∧ w0.drew.cell? ⟨w.heap.size, 4, none⟩ = some (u (s.r 4)) ∧ w0.drew.cell? ⟨w.heap.size, 5, none⟩ = some (u (s.r 5)) ∧ w0.drew.cell? ⟨w.heap.size, 6, none⟩ = some (u (s.r 6)) ∧ w0.drew.cell? ⟨w.heap.size, 7, none⟩ = some (u (s.r 7)) ∧ w0.drew.cell? ⟨w.heap.size, 8, none⟩ = some (u s.pc) ∧ w0.drew.cell? ⟨w.heap.size, 9, none⟩ = some (.bool s.n) ∧ w0.drew.cell? ⟨w.heap.size, 10, none⟩ = some (.bool s.z) ∧ w0.drew.cell? ⟨w.heap.size, 11, none⟩ = some (.bool s.c) ∧ w0.drew.cell? ⟨w.heap.size, 12, none⟩ = some (.bool s.v) from Blk.cells13 HSX.out.b0)
  obtain ⟨n0, n1, n2, n3, n4, n5, n6, n7, n8, n9, n10, n11, n12⟩ := Blk.cells13 HSX.out.b0
  go_region_held3 (fun w' => w'.cell? ⟨w.heap.size, 0, none⟩ = some (u (s.r 0)) ∧ w'.cell? ⟨w.heap.size, 1, none⟩ = some (u (s.r 1)) ∧ w'.cell? ⟨w.heap.size, 2, none⟩ = some (u (s.r 2)) ∧ w'.cell? ⟨w.heap.size, 3, none⟩ = some (u (s.r 3)) ∧ w'.cell? ⟨w.heap.size, 4, none⟩ = some (u (s.r 4)) ∧ w'.cell? ⟨w.heap.size, 5, none⟩ = some (u (s.r 5)) ∧ w'.cell? ⟨w.heap.size, 6, none⟩ = some (u (s.r 6)) ∧ w'.cell? ⟨w.heap.size, 7, none⟩ = some (u (s.r 7)) ∧ w'.cell? ⟨w.heap.size, 8, none⟩ = some (u s.pc) ∧ w'.cell? ⟨w.heap.size, 9, none⟩ = some (.bool s.n) ∧ w'.cell? ⟨w.heap.size, 10, none⟩ = some (.bool s.z) ∧ w'.cell? ⟨w.heap.size, 11, none⟩ = some (.bool s.c) ∧ w'.cell? ⟨w.heap.size, 12, none⟩ = some (.bool s.v)) (first | with_reducible exact HL0.out | with_reducible exact HL0d.out | with_reducible exact HL1.out | with_reducible exact HL3.out) (first | (go_at_call 44; refine (HA.out _).mono ?_; rintro e w1 ⟨rfl, hb⟩; have HS := Lib.hid ((show Sx w s w0.drew from ⟨HSX.out.b0, HSX.out.b1⟩).below hb); have HB := Lib.hid (HBL.out.drew.trans (hb.mono HBL.out.drew.size)); have HL1 := Lib.hid (show w1.cell? ⟨w.heap.size, 0, none⟩ = some (u (s.r 0)) ∧ w1.cell? ⟨w.heap.size, 1, none⟩ = some (u (s.r 1)) ∧ w1.cell? ⟨w.heap.size, 2, none⟩ = some (u (s.r 2)) ∧ w1.cell? ⟨w.heap.size, 3, none⟩ = some (u (s.r 3)) ∧ w1.cell? ⟨w.heap.size, 4, none⟩ = some (u (s.r 4)) ∧ w1.cell? ⟨w.heap.size, 5, none⟩ = some (u (s.r 5)) ∧ w1.cell? ⟨w.heap.size, 6, none⟩ = some (u (s.r 6)) ∧ w1.cell? ⟨w.heap.size, 7, none⟩ = some (u (s.r 7)) ∧ w1.cell? ⟨w.heap.size, 8, none⟩ = some (u s.pc) ∧ w1.cell? ⟨w.heap.size, 9, none⟩ = some (.bool s.n) ∧ w1.cell? ⟨w.heap.size, 10, none⟩ = some (.bool s.z) ∧ w1.cell? ⟨w.heap.size, 11, none⟩ = some (.bool s.c) ∧ w1.cell? ⟨w.heap.size, 12, none⟩ = some (.bool s.v) from Blk.cells13 HS.out.b0); obtain ⟨z0, z1, z2, z3, z4, z5, z6, z7, z8, z9, z10, z11, z12⟩ := Blk.cells13 HS.out.b1; obtain ⟨f0, f1, f2, f3, f4, f5, f6, f7, f8, f9, f10, f11, f12⟩ := Blk.frozen13 HS.out.b1; have HB5 := Lib.hid (blk13 HS.out.b1 s2); have HL3 := Lib.hid (show (put13 w1 (w.heap.size + 1) s2).cell? ⟨w.heap.size, 0, none⟩ = some (u (s.r 0)) ∧ (put13 w1 (w.heap.size + 1) s2).cell? ⟨w.heap.size, 1, none⟩ = some (u (s.r 1)) ∧ (put13 w1 (w.heap.size + 1) s2).cell? ⟨w.heap.size, 2, none⟩ = some (u (s.r 2)) ∧ (put13 w1 (w.heap.size + 1) s2).cell? ⟨w.heap.size, 3, none⟩ = some (u (s.r 3)) ∧ (put13 w1 (w.heap.size + 1) s2).cell? ⟨w.heap.size, 4, none⟩ = some (u (s.r 4)) ∧ (put13 w1 (w.heap.size + 1) s2).cell? ⟨w.heap.size, 5, none⟩ = some (u (s.r 5)) ∧ (put13 w1 (w.heap.size + 1) s2).cell? ⟨w.heap.size, 6, none⟩ = some (u (s.r 6)) ∧ (put13 w1 (w.heap.size + 1) s2).cell? ⟨w.heap.size, 7, none⟩ = some (u (s.r 7)) ∧ (put13 w1 (w.heap.size + 1) s2).cell? ⟨w.heap.size, 8, none⟩ = some (u s.pc) ∧ (put13 w1 (w.heap.size + 1) s2).cell? ⟨w.heap.size, 9, none⟩ = some (.bool s.n) ∧ (put13 w1 (w.heap.size + 1) s2).cell? ⟨w.heap.size, 10, none⟩ = some (.bool s.z) ∧ (put13 w1 (w.heap.size + 1) s2).cell? ⟨w.heap.size, 11, none⟩ = some (.bool s.c) ∧ (put13 w1 (w.heap.size + 1) s2).cell? ⟨w.heap.size, 12, none⟩ = some (.bool s.v) from Blk.cells13 (HS.out.b0.upd HB5.out.2 (by omega))); clear hb) | (go_at_call 46; refine (HN.out _).mono ?_; rintro e w9 ⟨rfl, rfl⟩))
  obtain ⟨hB, hU⟩ := HB5.out
  have HL := Lib.hid (upd_low HB.out hU (by omega))
  clear HL0 HL0d HL1 HL3 HB5 HB n0 n1 n2 n3 n4 n5 n6 n7 n8 n9 n10 n11 n12 z0 z1 z2 z3 z4 z5 z6 z7 z8 z9 z10 z11 z12 f0 f1 f2 f3 f4 f5 f6 f7 f8 f9 f10 f11 f12 hU
  obtain ⟨w8, hw8⟩ : ∃ w8, put13 w1 (w.heap.size + 1) s2 = w8 := ⟨_, rfl⟩
  rw [hw8] at hB HL
  simp only [put13] at hw8
  rw [hw8]
  clear hw8
  obtain ⟨n0, n1, n2, n3, n4, n5, n6, n7, n8, n9, n10, n11, n12⟩ := Blk.cells13 hB
  go_wp2_with fail
  exact bodyPost_ret (v := sv s2) (by simp [results, Tryd.results48, go_sem, n0, n1, n2, n3, n4, n5, n6, n7, n8, n9, n10, n11, n12]) rfl ⟨by rw [← HQ.out, ← HNB.out]; rfl, HL.out⟩
theorem ralu (k : Nat) (hk : k < 16) (s : S) (d : Int) (hd : DOk d) (a b : BitVec 32) (w : World) : Calls Tryd.prog 48 #[sv s, .int .i64 k, .int .i64 d, u a, u b] w fun e w' => e = .returned (sv (outS s (alu3 k a b s.c s.v) (if k = 8 ∨ k = 10 ∨ k = 11 then -1 else d))) ∧ Below w.heap.size w w' := by
  have hr : k = 0 ∨ k = 1 ∨ k = 2 ∨ k = 3 ∨ k = 4 ∨ k = 5 ∨ k = 6 ∨ k = 7 ∨ k = 8 ∨ k = 9 ∨ k = 10 ∨ k = 11 ∨ k = 12 ∨ k = 13 ∨ k = 14 ∨ k = 15 := by omega
  rcases hr with rfl | rfl | rfl | rfl | rfl | rfl | rfl | rfl | rfl | rfl | rfl | rfl | rfl | rfl | rfl | rfl
  · exact ralu0 s d hd a b w
  · exact ralu1 s d hd a b w
  · exact ralu2 s d hd a b w
  · exact ralu3 s d hd a b w
  · exact ralu4 s d hd a b w
  · exact ralu5 s d hd a b w
  · exact ralu6 s d hd a b w
  · exact ralu7 s d hd a b w
  · exact ralu8 s d hd a b w
  · exact ralu9 s d hd a b w
  · exact ralu10 s d hd a b w
  · exact ralu11 s d hd a b w
  · exact ralu12 s d hd a b w
  · exact ralu13 s d hd a b w
  · exact ralu14 s d hd a b w
  · exact ralu15 s d hd a b w
end Go.Proofs.YtkafmpdjpjgkgaaDoor.Co
