/- DERIVED. CoRp in one text. By an AI agent. -/
import Derived.Test.YtkafmpdjpjgkgaaDoorZ20
/- DERIVED. Contracts of the reference's put, sum, shift. By an AI agent. -/
namespace Go.Proofs.YtkafmpdjpjgkgaaDoor.Co
open Go.ChangeShapes Go.WideShapes Go.ChangeAt Go.RowKit WMath Word Ref Args Mm
set_option linter.unusedVariables false
set_option linter.unusedSimpArgs false
/-- A word with its flags, in a register; below 0 in none. -/
def putS (s : S) (x : BitVec 32) (d : Int) : S := if d < 0 then s.fl x else (s.fl x).up d.toNat x
def DOk (d : Int) : Prop := d = -1 ∨ (0 ≤ d ∧ d < 8)
theorem sx_next {w W W' : World} {s : S} (h : Sx w s W) (s' : S) (hb : Blk W' w.heap.size 51 (sC s')) (hu : Upd (· = w.heap.size) W W') : Sx w s' W' := ⟨hb, h.b1.upd hu (by omega)⟩
set_option maxRecDepth 100000 in
set_option maxHeartbeats 2000000 in
theorem rputN (s : S) (x : BitVec 32) (w : World) : Calls Tryd.prog 44 #[sv s, u x, .int .i64 (-1)] w fun e w' => e = .returned (sv (s.fl x)) ∧ Below w.heap.size w w' := by
  have hfl := fun W => rflags s x W
  obtain ⟨s1, hs1⟩ : ∃ s1, s.fl x = s1 := ⟨_, rfl⟩
  rw [hs1] at hfl ⊢
  have HFL := Lib.hid hfl
  clear hfl hs1
  
  obtain ⟨hsx, hbel⟩ := sx_new w s
  have HSX := Lib.hid hsx; have HBL := Lib.hid hbel
  clear hsx hbel
  go_enter Tryd.func44, Tryd.ntmps44
  go_wp2_with fail
  refine (HFL.out _).mono ?_
  rintro e w1 ⟨rfl, hb⟩
  have HS := Lib.hid (HSX.out.below hb)
  have HB := Lib.hid (HBL.out.trans (hb.mono HBL.out.size))
  clear hb HFL HSX HBL
  obtain ⟨n0, n1, n2, n3, n4, n5, n6, n7, n8, n9, n10, n11, n12⟩ := Blk.cells13 HS.out.b0
  obtain ⟨f0, f1, f2, f3, f4, f5, f6, f7, f8, f9, f10, f11, f12⟩ := Blk.frozen13 HS.out.b0
  go_upto_region 4 with fail
  clear n0 n1 n2 n3 n4 n5 n6 n7 n8 n9 n10 n11 n12 f0 f1 f2 f3 f4 f5 f6 f7 f8 f9 f10 f11 f12
  obtain ⟨hB, hU⟩ := blk13 HS.out.b0 s1
  have HS2 := Lib.hid (sx_next HS.out s1 hB hU)
  have HB2 := Lib.hid (upd_low HB.out hU (Nat.le_refl _))
  obtain ⟨w2, hw2⟩ : ∃ w2, put13 w1 w.heap.size s1 = w2 := ⟨_, rfl⟩
  rw [hw2] at HS2 HB2
  simp only [put13] at hw2
  rw [hw2]
  clear hw2 hB hU HS HB
  obtain ⟨n0, n1, n2, n3, n4, n5, n6, n7, n8, n9, n10, n11, n12⟩ := Blk.cells13 HS2.out.b0
  obtain ⟨z0, z1, z2, z3, z4, z5, z6, z7, z8, z9, z10, z11, z12⟩ := Blk.cells13 HS2.out.b1
  obtain ⟨f0, f1, f2, f3, f4, f5, f6, f7, f8, f9, f10, f11, f12⟩ := Blk.frozen13 HS2.out.b1
  go_wp2_with fail
  clear n0 n1 n2 n3 n4 n5 n6 n7 n8 n9 n10 n11 n12 z0 z1 z2 z3 z4 z5 z6 z7 z8 z9 z10 z11 z12 f0 f1 f2 f3 f4 f5 f6 f7 f8 f9 f10 f11 f12
  obtain ⟨hB, hU⟩ := blk13 HS2.out.b1 s1
  have HL := Lib.hid (upd_low HB2.out hU (by omega))
  obtain ⟨w8, hw8⟩ : ∃ w8, put13 w2 (w.heap.size + 1) s1 = w8 := ⟨_, rfl⟩
  rw [hw8] at hB HL
  simp only [put13] at hw8
  rw [hw8]
  clear hw8 hU
  obtain ⟨n0, n1, n2, n3, n4, n5, n6, n7, n8, n9, n10, n11, n12⟩ := Blk.cells13 hB
  exact bodyPost_ret (v := sv s1) (by simp [results, Tryd.results44, go_sem, n0, n1, n2, n3, n4, n5, n6, n7, n8, n9, n10, n11, n12]) rfl ⟨rfl, HL.out⟩
set_option maxRecDepth 100000 in
set_option maxHeartbeats 2000000 in
theorem rputD (s : S) (x : BitVec 32) (D : Nat) (hD : D < 8) (w : World) : Calls Tryd.prog 44 #[sv s, u x, .int .i64 D] w fun e w' => e = .returned (sv ((s.fl x).up D x)) ∧ Below w.heap.size w w' := by
  have hfl := fun W => rflags s x W
  obtain ⟨s1, hs1⟩ : ∃ s1, s.fl x = s1 := ⟨_, rfl⟩
  rw [hs1] at hfl ⊢
  have HFL := Lib.hid hfl
  clear hfl hs1
  have hD2 : (D : Int) < 8 := by omega
  obtain ⟨hsx, hbel⟩ := sx_new w s
  have HSX := Lib.hid hsx; have HBL := Lib.hid hbel
  clear hsx hbel
  go_enter Tryd.func44, Tryd.ntmps44
  go_wp2_with fail
  refine (HFL.out _).mono ?_
  rintro e w1 ⟨rfl, hb⟩
  have HS := Lib.hid (HSX.out.below hb)
  have HB := Lib.hid (HBL.out.trans (hb.mono HBL.out.size))
  clear hb HFL HSX HBL
  obtain ⟨n0, n1, n2, n3, n4, n5, n6, n7, n8, n9, n10, n11, n12⟩ := Blk.cells13 HS.out.b0
  obtain ⟨f0, f1, f2, f3, f4, f5, f6, f7, f8, f9, f10, f11, f12⟩ := Blk.frozen13 HS.out.b0
  go_upto_region 3 with fail
  clear n0 n1 n2 n3 n4 n5 n6 n7 n8 n9 n10 n11 n12 f0 f1 f2 f3 f4 f5 f6 f7 f8 f9 f10 f11 f12
  obtain ⟨hB, hU⟩ := blk13 HS.out.b0 s1
  have HS2 := Lib.hid (sx_next HS.out s1 hB hU)
  have HB2 := Lib.hid (upd_low HB.out hU (Nat.le_refl _))
  obtain ⟨w2, hw2⟩ : ∃ w2, put13 w1 w.heap.size s1 = w2 := ⟨_, rfl⟩
  rw [hw2] at HS2 HB2
  simp only [put13] at hw2
  rw [hw2]
  clear hw2 hB hU HS HB
  have nD := HS2.out.b0.reg D hD
  have fD := HS2.out.b0.frozen D
  go_upto_region 4 with fail
  have hB := HS2.out.b0.up D hD x
  have hU := upd_set w2 w.heap.size D (u x) (Upd.refl _ w2)
  have HS3 := Lib.hid (sx_next HS2.out (s1.up D x) hB hU)
  have HB3 := Lib.hid (upd_low HB2.out hU (Nat.le_refl _))
  obtain ⟨s2, hs2⟩ : ∃ s2, s1.up D x = s2 := ⟨_, rfl⟩
  rw [hs2] at HS3
  have HQ := Lib.hid hs2
  clear hs2 hB hU nD fD HS2 HB2
  generalize w2.setCell ⟨w.heap.size, D, none⟩ (u x) = w3 at *
  obtain ⟨n0, n1, n2, n3, n4, n5, n6, n7, n8, n9, n10, n11, n12⟩ := Blk.cells13 HS3.out.b0
  obtain ⟨z0, z1, z2, z3, z4, z5, z6, z7, z8, z9, z10, z11, z12⟩ := Blk.cells13 HS3.out.b1
  obtain ⟨f0, f1, f2, f3, f4, f5, f6, f7, f8, f9, f10, f11, f12⟩ := Blk.frozen13 HS3.out.b1
  go_wp2_with fail
  clear n0 n1 n2 n3 n4 n5 n6 n7 n8 n9 n10 n11 n12 z0 z1 z2 z3 z4 z5 z6 z7 z8 z9 z10 z11 z12 f0 f1 f2 f3 f4 f5 f6 f7 f8 f9 f10 f11 f12
  obtain ⟨hB, hU⟩ := blk13 HS3.out.b1 s2
  have HL := Lib.hid (upd_low HB3.out hU (by omega))
  obtain ⟨w8, hw8⟩ : ∃ w8, put13 w3 (w.heap.size + 1) s2 = w8 := ⟨_, rfl⟩
  rw [hw8] at hB HL
  simp only [put13] at hw8
  rw [hw8]
  clear hw8 hU
  obtain ⟨n0, n1, n2, n3, n4, n5, n6, n7, n8, n9, n10, n11, n12⟩ := Blk.cells13 hB
  exact bodyPost_ret (v := sv s2) (by simp [results, Tryd.results44, go_sem, n0, n1, n2, n3, n4, n5, n6, n7, n8, n9, n10, n11, n12]) rfl ⟨by rw [HQ.out], HL.out⟩
theorem rput (s : S) (x : BitVec 32) (d : Int) (hd : DOk d) (w : World) : Calls Tryd.prog 44 #[sv s, u x, .int .i64 d] w fun e w' => e = .returned (sv (putS s x d)) ∧ Below w.heap.size w w' := by
  rcases hd with rfl | ⟨h0, h1⟩
  · exact rputN s x w
  · obtain ⟨D, rfl⟩ := Int.eq_ofNat_of_zero_le h0
    have e : putS s x (D : Int) = (s.fl x).up D x := by unfold putS; rw [if_neg (by omega), Int.toNat_natCast]
    rw [e]
    exact rputD s x D (by omega) w
set_option maxRecDepth 100000 in
set_option maxHeartbeats 2000000 in
theorem rsum (s : S) (a b : BitVec 32) (c : Bool) (d : Int) (hd : DOk d) (w : World) : Calls Tryd.prog 45 #[sv s, u a, u b, .bool c, .int .i64 d] w fun e w' => e = .returned (sv (putS (s.cv (sum3 a b c).c (sum3 a b c).v) (sum3 a b c).w d)) ∧ Below w.heap.size w w' := by
  have hA := fun W => raddC a b c W
  have hA2 : ∀ W, Calls Tryd.prog 63 #[u a, u b, .bool c] W fun e w' => e = .returned (.tuple #[u (sum3 a b c).w, .bool (sum3 a b c).c, .bool (sum3 a b c).v]) ∧ Below W.heap.size W w' := hA
  generalize sum3 a b c = x at *
  obtain ⟨s1, hs1⟩ : ∃ s1, s.cv x.c x.v = s1 := ⟨_, rfl⟩
  have hP := fun W => rput s1 x.w d hd W
  rw [hs1]
  generalize putS s1 x.w d = s2 at *
  have HA := Lib.hid hA2; have HPT := Lib.hid hP; have HQ := Lib.hid hs1
  clear hA hA2 hP hd hs1
  obtain ⟨hsx, hbel⟩ := sx_new w s
  have HSX := Lib.hid hsx; have HBL := Lib.hid hbel
  clear hsx hbel
  go_enter Tryd.func45, Tryd.ntmps45
  go_wp2_with fail
  
  refine (HA.out _).mono ?_
  rintro e w1 ⟨rfl, hb⟩
  have HS := Lib.hid (HSX.out.below hb)
  have HB := Lib.hid (HBL.out.trans (hb.mono HBL.out.size))
  clear hb HA HSX HBL
  obtain ⟨n0, n1, n2, n3, n4, n5, n6, n7, n8, n9, n10, n11, n12⟩ := Blk.cells13 HS.out.b0
  obtain ⟨f0, f1, f2, f3, f4, f5, f6, f7, f8, f9, f10, f11, f12⟩ := Blk.frozen13 HS.out.b0
  go_upto_region 3 with fail
  clear n0 n1 n2 n3 n4 n5 n6 n7 n8 n9 n10 n11 n12 f0 f1 f2 f3 f4 f5 f6 f7 f8 f9 f10 f11 f12
  have hB := blk_one (cs' := sC (s.cv x.c x.v)) (blk_one (cs' := sC { s with c := x.c }) HS.out.b0 11 (.bool x.c) rfl) 12 (.bool x.v) rfl
  have hU := upd_set _ w.heap.size 12 (.bool x.v) (upd_set _ w.heap.size 11 (.bool x.c) (Upd.refl _ w1))
  rw [HQ.out] at hB
  have HS2 := Lib.hid (sx_next HS.out s1 hB hU)
  have HB2 := Lib.hid (upd_low HB.out hU (Nat.le_refl _))
  clear hB hU HS HB
  generalize (w1.setCell ⟨w.heap.size, 11, none⟩ (.bool x.c)).setCell ⟨w.heap.size, 12, none⟩ (.bool x.v) = w2 at *
  obtain ⟨n0, n1, n2, n3, n4, n5, n6, n7, n8, n9, n10, n11, n12⟩ := Blk.cells13 HS2.out.b0
  go_wp2_with fail
  refine (HPT.out _).mono ?_
  rintro e w3 ⟨rfl, hb⟩
  have HS3 := Lib.hid (HS2.out.below hb)
  have HB3 := Lib.hid (HB2.out.trans (hb.mono HB2.out.size))
  clear hb HPT HS2 HB2 n0 n1 n2 n3 n4 n5 n6 n7 n8 n9 n10 n11 n12
  obtain ⟨n0, n1, n2, n3, n4, n5, n6, n7, n8, n9, n10, n11, n12⟩ := Blk.cells13 HS3.out.b0
  obtain ⟨z0, z1, z2, z3, z4, z5, z6, z7, z8, z9, z10, z11, z12⟩ := Blk.cells13 HS3.out.b1
  obtain ⟨f0, f1, f2, f3, f4, f5, f6, f7, f8, f9, f10, f11, f12⟩ := Blk.frozen13 HS3.out.b1
  go_wp2_with fail
  clear n0 n1 n2 n3 n4 n5 n6 n7 n8 n9 n10 n11 n12 z0 z1 z2 z3 z4 z5 z6 z7 z8 z9 z10 z11 z12 f0 f1 f2 f3 f4 f5 f6 f7 f8 f9 f10 f11 f12
  obtain ⟨hB, hU⟩ := blk13 HS3.out.b1 s2
  have HL := Lib.hid (upd_low HB3.out hU (by omega))
  obtain ⟨w8, hw8⟩ : ∃ w8, put13 w3 (w.heap.size + 1) s2 = w8 := ⟨_, rfl⟩
  rw [hw8] at hB HL
  simp only [put13] at hw8
  rw [hw8]
  clear hw8 hU
  obtain ⟨n0, n1, n2, n3, n4, n5, n6, n7, n8, n9, n10, n11, n12⟩ := Blk.cells13 hB
  exact bodyPost_ret (v := sv s2) (by simp [results, Tryd.results45, go_sem, n0, n1, n2, n3, n4, n5, n6, n7, n8, n9, n10, n11, n12]) rfl ⟨rfl, HL.out⟩
set_option maxRecDepth 100000 in
set_option maxHeartbeats 2000000 in
theorem rshS (s : S) (k : Nat) (hk : k < 4) (a : BitVec 32) (n : Nat) (hn : n < 4294967296) (d : Int) (hd : DOk d) (w : World) : Calls Tryd.prog 47 #[sv s, .int .i64 k, u a, .int .u32 n, .int .i64 d] w fun e w' => e = .returned (sv (putS (s.cv (sh3 k a n s.c s.v).c (sh3 k a n s.c s.v).v) (sh3 k a n s.c s.v).w d)) ∧ Below w.heap.size w w' := by
  have hA := fun W => rshift k hk a n hn s.c W
  have hA2 : ∀ W, Calls Tryd.prog 64 #[.int .i64 k, u a, .int .u32 n, .bool s.c] W fun e w' => e = .returned (.tuple #[u (sh3 k a n s.c s.v).w, .bool (sh3 k a n s.c s.v).c]) ∧ Below W.heap.size W w' := hA
  have hv : (sh3 k a n s.c s.v).v = s.v := rfl
  generalize sh3 k a n s.c s.v = x at *
  obtain ⟨s1, hs1⟩ : ∃ s1, s.cv x.c x.v = s1 := ⟨_, rfl⟩
  have hP := fun W => rput s1 x.w d hd W
  rw [hs1]
  generalize putS s1 x.w d = s2 at *
  have HA := Lib.hid hA2; have HPT := Lib.hid hP; have HQ := Lib.hid hs1; have HV := Lib.hid hv
  clear hA hA2 hP hd hs1 hv
  obtain ⟨hsx, hbel⟩ := sx_new w s
  have HSX := Lib.hid hsx; have HBL := Lib.hid hbel
  clear hsx hbel
  go_enter Tryd.func47, Tryd.ntmps47
  go_wp2_with fail
  
  refine (HA.out _).mono ?_
  rintro e w1 ⟨rfl, hb⟩
  have HS := Lib.hid (HSX.out.below hb)
  have HB := Lib.hid (HBL.out.trans (hb.mono HBL.out.size))
  clear hb HA HSX HBL
  obtain ⟨n0, n1, n2, n3, n4, n5, n6, n7, n8, n9, n10, n11, n12⟩ := Blk.cells13 HS.out.b0
  obtain ⟨f0, f1, f2, f3, f4, f5, f6, f7, f8, f9, f10, f11, f12⟩ := Blk.frozen13 HS.out.b0
  go_upto_region 3 with fail
  clear n0 n1 n2 n3 n4 n5 n6 n7 n8 n9 n10 n11 n12 f0 f1 f2 f3 f4 f5 f6 f7 f8 f9 f10 f11 f12
  have hB := blk_one (cs' := sC (s.cv x.c s.v)) HS.out.b0 11 (.bool x.c) rfl
  have hU := upd_set _ w.heap.size 11 (.bool x.c) (Upd.refl _ w1)
  rw [← HV.out, HQ.out] at hB
  have HS2 := Lib.hid (sx_next HS.out s1 hB hU)
  have HB2 := Lib.hid (upd_low HB.out hU (Nat.le_refl _))
  clear hB hU HS HB
  generalize w1.setCell ⟨w.heap.size, 11, none⟩ (.bool x.c) = w2 at *
  obtain ⟨n0, n1, n2, n3, n4, n5, n6, n7, n8, n9, n10, n11, n12⟩ := Blk.cells13 HS2.out.b0
  go_wp2_with fail
  refine (HPT.out _).mono ?_
  rintro e w3 ⟨rfl, hb⟩
  have HS3 := Lib.hid (HS2.out.below hb)
  have HB3 := Lib.hid (HB2.out.trans (hb.mono HB2.out.size))
  clear hb HPT HS2 HB2 n0 n1 n2 n3 n4 n5 n6 n7 n8 n9 n10 n11 n12
  obtain ⟨n0, n1, n2, n3, n4, n5, n6, n7, n8, n9, n10, n11, n12⟩ := Blk.cells13 HS3.out.b0
  obtain ⟨z0, z1, z2, z3, z4, z5, z6, z7, z8, z9, z10, z11, z12⟩ := Blk.cells13 HS3.out.b1
  obtain ⟨f0, f1, f2, f3, f4, f5, f6, f7, f8, f9, f10, f11, f12⟩ := Blk.frozen13 HS3.out.b1
  go_wp2_with fail
  clear n0 n1 n2 n3 n4 n5 n6 n7 n8 n9 n10 n11 n12 z0 z1 z2 z3 z4 z5 z6 z7 z8 z9 z10 z11 z12 f0 f1 f2 f3 f4 f5 f6 f7 f8 f9 f10 f11 f12
  obtain ⟨hB, hU⟩ := blk13 HS3.out.b1 s2
  have HL := Lib.hid (upd_low HB3.out hU (by omega))
  obtain ⟨w8, hw8⟩ : ∃ w8, put13 w3 (w.heap.size + 1) s2 = w8 := ⟨_, rfl⟩
  rw [hw8] at hB HL
  simp only [put13] at hw8
  rw [hw8]
  clear hw8 hU
  obtain ⟨n0, n1, n2, n3, n4, n5, n6, n7, n8, n9, n10, n11, n12⟩ := Blk.cells13 hB
  exact bodyPost_ret (v := sv s2) (by simp [results, Tryd.results47, go_sem, n0, n1, n2, n3, n4, n5, n6, n7, n8, n9, n10, n11, n12]) rfl ⟨rfl, HL.out⟩
end Go.Proofs.YtkafmpdjpjgkgaaDoor.Co
