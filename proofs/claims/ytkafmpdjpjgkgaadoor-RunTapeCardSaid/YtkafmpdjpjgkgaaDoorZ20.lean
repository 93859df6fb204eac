/- DERIVED. CoStep in one text. By an AI agent. -/
import Derived.Test.YtkafmpdjpjgkgaaDoorZ19
/- DERIVED. The contract of the program's Step. By an AI agent. -/
namespace Go.Proofs.YtkafmpdjpjgkgaaDoor.Co
open Go.ChangeShapes Go.WideShapes Go.ChangeAt Go.RowKit WMath Word Ref Args Mm
set_option linter.unusedVariables false
set_option linter.unusedSimpArgs false
/-- What an instruction that goes on does: a state, an error, memory. -/
def doS (op D N M : Nat) (i : Int) (s : S) (m : St) : S × Int × St :=
  if op < 12 then (doCS op D N M (BitVec.ofInt 32 i) s, 0, m)
  else if op = 12 ∨ op = 14 ∨ op = 16 then ((s.to (nextV op D (BitVec.ofInt 32 i) s)).up D (BitVec.ofInt 32 (lookV m ((addrV op N M (BitVec.ofInt 32 i) s).toNat : Int)).1), (lookV m ((addrV op N M (BitVec.ofInt 32 i) s).toNat : Int)).2, loadS m ((addrV op N M (BitVec.ofInt 32 i) s).toNat : Int))
  else if op = 13 ∨ op = 15 then (s.to (nextV op D (BitVec.ofInt 32 i) s), storeE m ((addrV op N M (BitVec.ofInt 32 i) s).toNat : Int), storeS m ((addrV op N M (BitVec.ofInt 32 i) s).toNat : Int) ((s.r D).toNat : Int))
  else (s.to (nextV op D (BitVec.ofInt 32 i) s), 0, m)
/-- What Step does: a state, whether it has stopped, an error, memory. -/
def stepV (s : S) (m : St) : S × Bool × Int × St :=
  if (fetchV m (s.pc.toNat : Int)).2 = 0 then
    if (Tp.takeF 21 0 (fetchV m (s.pc.toNat : Int)).1.toNat).2.2 = 0 then
      if (Tp.takeF 21 0 (fetchV m (s.pc.toNat : Int)).1.toNat).1 = 20 then (s, true, 0, m)
      else if (doS (Tp.takeF 21 0 (fetchV m (s.pc.toNat : Int)).1.toNat).1 (Tp.takeF 21 0 (fetchV m (s.pc.toNat : Int)).1.toNat).2.1.d.toNat (Tp.takeF 21 0 (fetchV m (s.pc.toNat : Int)).1.toNat).2.1.n.toNat (Tp.takeF 21 0 (fetchV m (s.pc.toNat : Int)).1.toNat).2.1.m.toNat (Tp.takeF 21 0 (fetchV m (s.pc.toNat : Int)).1.toNat).2.1.i s m).2.1 = 0
      then ((doS (Tp.takeF 21 0 (fetchV m (s.pc.toNat : Int)).1.toNat).1 (Tp.takeF 21 0 (fetchV m (s.pc.toNat : Int)).1.toNat).2.1.d.toNat (Tp.takeF 21 0 (fetchV m (s.pc.toNat : Int)).1.toNat).2.1.n.toNat (Tp.takeF 21 0 (fetchV m (s.pc.toNat : Int)).1.toNat).2.1.m.toNat (Tp.takeF 21 0 (fetchV m (s.pc.toNat : Int)).1.toNat).2.1.i s m).1, false, 0, (doS (Tp.takeF 21 0 (fetchV m (s.pc.toNat : Int)).1.toNat).1 (Tp.takeF 21 0 (fetchV m (s.pc.toNat : Int)).1.toNat).2.1.d.toNat (Tp.takeF 21 0 (fetchV m (s.pc.toNat : Int)).1.toNat).2.1.n.toNat (Tp.takeF 21 0 (fetchV m (s.pc.toNat : Int)).1.toNat).2.1.m.toNat (Tp.takeF 21 0 (fetchV m (s.pc.toNat : Int)).1.toNat).2.1.i s m).2.2)
      else (s, false, (doS (Tp.takeF 21 0 (fetchV m (s.pc.toNat : Int)).1.toNat).1 (Tp.takeF 21 0 (fetchV m (s.pc.toNat : Int)).1.toNat).2.1.d.toNat (Tp.takeF 21 0 (fetchV m (s.pc.toNat : Int)).1.toNat).2.1.n.toNat (Tp.takeF 21 0 (fetchV m (s.pc.toNat : Int)).1.toNat).2.1.m.toNat (Tp.takeF 21 0 (fetchV m (s.pc.toNat : Int)).1.toNat).2.1.i s m).2.1, (doS (Tp.takeF 21 0 (fetchV m (s.pc.toNat : Int)).1.toNat).1 (Tp.takeF 21 0 (fetchV m (s.pc.toNat : Int)).1.toNat).2.1.d.toNat (Tp.takeF 21 0 (fetchV m (s.pc.toNat : Int)).1.toNat).2.1.n.toNat (Tp.takeF 21 0 (fetchV m (s.pc.toNat : Int)).1.toNat).2.1.m.toNat (Tp.takeF 21 0 (fetchV m (s.pc.toNat : Int)).1.toNat).2.1.i s m).2.2)
    else (s, false, (Tp.takeF 21 0 (fetchV m (s.pc.toNat : Int)).1.toNat).2.2, m)
  else (s, false, (fetchV m (s.pc.toNat : Int)).2, m)
/-- What an instruction may hold. -/
structure Wi (k D N M : Nat) (i : Int) : Prop where
  can : ThRef.canB k D N M i = true
  lt : k < 21
  d14 : D < 14
  d8 : k ≠ 18 → D < 8
  n8 : N < 8
  m8 : M < 8
  i0 : k ≠ 17 → k ≠ 18 → 0 ≤ i ∧ i < 256
  i16 : k = 11 → i < 16
theorem low_high : ∀ j : Fin 21, (j.val ≠ 17 → j.val ≠ 18 → 0 ≤ ThRef.lowN j.val ∧ ThRef.highN j.val < 256) ∧ (j.val = 11 → ThRef.highN j.val < 16) := by decide
theorem wi_of (k : Nat) (hk : k < 21) (q : Tp.Nums) (hc : Tp.canN k q = true) : ∃ D N M : Nat, q = ⟨D, N, M, q.i⟩ ∧ Wi k D N M q.i := by
  obtain ⟨d, n, m, i⟩ := q
  obtain ⟨⟨d0, d1⟩, ⟨n0, n1⟩, ⟨m0, m1⟩, i0, i1⟩ := ThRef.can_bounds k d n m i hc
  have hd := fun h => ThRef.can_d7 k d n m i hc h
  obtain ⟨D, rfl⟩ := Int.eq_ofNat_of_zero_le d0
  obtain ⟨N, rfl⟩ := Int.eq_ofNat_of_zero_le n0
  obtain ⟨M, rfl⟩ := Int.eq_ofNat_of_zero_le m0
  have hc2 : ThRef.canB k D N M i = true := hc
  have hr : ThRef.lowN k ≤ i ∧ i ≤ ThRef.highN k := by
    unfold ThRef.canB ThRef.restB at hc2
    simp only [Int.toNat_natCast, Bool.and_eq_true, decide_eq_true_eq] at hc2
    exact ⟨hc2.2.1.2, hc2.2.2⟩
  obtain ⟨l1, l2⟩ := low_high ⟨k, hk⟩
  simp only at l1 l2
  refine ⟨D, N, M, rfl, hc2, hk, by omega, fun h => ?_, by omega, by omega, fun h h' => ?_, fun h => ?_⟩
  · have := hd (by omega); omega
  · have := l1 h h'; simp only; omega
  · have := l2 h; simp only; omega
theorem ofInt_small (i : Int) (h0 : 0 ≤ i) (h1 : i < 256) : ((BitVec.ofInt 32 i).toNat : Int) = i := by rw [BitVec.toNat_ofInt]; omega
set_option maxHeartbeats 1000000 in
theorem cdo (k D N M : Nat) (i : Int) (hw : Wi k D N M i) (hk : k < 20) (s : S) (n0 : Nat) (h : Hd) (m : St) (w : World) (p : PP n0 h m w) (hT : Tp.Tb w) :
    Calls Tryd.prog 61 #[.agg (iC k D N M i), sv s, ptr h.r] w (DoEnd n0 h (doS k D N M i s m).1 (doS k D N M i s m).2.1 (doS k D N M i s m).2.2 w) := by
  by_cases h12 : k < 12
  · have hi := hw.i0 (by omega) (by omega)
    have e := ofInt_small i hi.1 hi.2
    have e0 : doS k D N M i s m = (doCS k D N M (BitVec.ofInt 32 i) s, 0, m) := by unfold doS; rw [if_pos h12]
    rw [e0]
    have hc := doC k D N M h12 (hw.d8 (by omega)) hw.n8 hw.m8 (BitVec.ofInt 32 i) (by omega) (fun h => by have := hw.i16 h; omega) (by rw [e]; exact hw.can) s h.r w hT
    rw [e] at hc
    refine hc.mono ?_
    rintro e' w' ⟨rfl, hb⟩
    exact do_below p hb
  · have hr : k = 12 ∨ k = 13 ∨ k = 14 ∨ k = 15 ∨ k = 16 ∨ k = 17 ∨ k = 18 ∨ k = 19 := by omega
    clear h12 hk
    rcases hr with rfl | rfl | rfl | rfl | rfl | rfl | rfl | rfl
    · exact doLd12 D N M (hw.d8 (by decide)) hw.n8 hw.m8 i s n0 h m w p
    · exact doSt13 D N M (hw.d8 (by decide)) hw.n8 hw.m8 i s n0 h m w p
    · exact doLd14 D N M (hw.d8 (by decide)) hw.n8 hw.m8 i s n0 h m w p
    · exact doSt15 D N M (hw.d8 (by decide)) hw.n8 hw.m8 i s n0 h m w p
    · exact doLd16 D N M (hw.d8 (by decide)) hw.n8 hw.m8 i s n0 h m w p
    · refine (doB17 D N M i s h.r w).mono ?_
      rintro e' w' ⟨rfl, hb⟩
      exact do_below p hb
    · refine (doB18 D N M i s h.r w).mono ?_
      rintro e' w' ⟨rfl, hb⟩
      exact do_below p hb
    · refine (doB19 D N M i s h.r w).mono ?_
      rintro e' w' ⟨rfl, hb⟩
      exact do_below p hb
/-- Behind Step. -/
def SpEnd (n0 : Nat) (h : Hd) (r : S × Bool × Int × St) (w : World) (e : Ending) (w' : World) : Prop := e = .returned (.tuple #[sv r.1, .bool r.2.1, .int .i64 r.2.2.1]) ∧ PP n0 h r.2.2.2 w' ∧ Upd h.X w w'
/-- Step's own two blocks. -/
structure Sx (w : World) (s : S) (W : World) : Prop where
  b0 : Blk W w.heap.size 51 (sC s)
  b1 : Blk W (w.heap.size + 1) 51 (sC zS)
theorem sx_new (w : World) (s : S) : Sx w s ((w.alloc (.cells (sC s) 51)).alloc (.cells (sC zS) 51)) ∧ Below w.heap.size w ((w.alloc (.cells (sC s) 51)).alloc (.cells (sC zS) 51)) := by
  have h0 := Blk.new w 51 (sC s)
  have h1 := Blk.new (w.alloc (.cells (sC s) 51)) 51 (sC zS)
  simp only [World.size_alloc] at h1
  exact ⟨⟨h0.alloc _, h1⟩, ((Below.refl _ _).alloc (Nat.le_refl _) _).alloc (by simp) _⟩
theorem Sx.below {w W W' : World} {s : S} (h : Sx w s W) (hb : Below W.heap.size W W') : Sx w s W' := ⟨h.b0.below hb h.b0.lt, h.b1.below hb h.b1.lt⟩
theorem Sx.drewN {w W : World} {s : S} (h : Sx w s W) (n : Nat) : Sx w s (W.drewN n) := ⟨h.b0, h.b1⟩
theorem Sx.upd {X : Nat → Prop} {w W W' : World} {s : S} (h : Sx w s W) (hu : Upd X W W') (hx : ∀ k, X k → k < w.heap.size) : Sx w s W' :=
  ⟨h.b0.upd hu (fun q => by have := hx _ q; omega), h.b1.upd hu (fun q => by have := hx _ q; omega)⟩
theorem fetch_in {m : St} (hf : Fit m) (a : Int) : 0 ≤ (fetchV m a).1 ∧ (fetchV m a).1 < 65536 := by
  unfold fetchV
  split
  · next h1 =>
    unfold plcB at h1
    simp only [Bool.and_eq_true, decide_eq_true_eq] at h1
    have := far_lo a 0
    exact Mm.getD_in hf.c (by omega)
  · decide
set_option maxRecDepth 100000 in
set_option maxHeartbeats 2000000 in
theorem stepA (s : S) (n0 : Nat) (h : Hd) (m : St) (w : World) (p : PP n0 h m w) (hT : Tp.Tb w) (er : Int) (hfe : fetchV m (s.pc.toNat : Int) = (0, er)) (he : er ≠ 0) : Calls Tryd.prog 42 #[sv s, ptr h.r] w (SpEnd n0 h (s, false, er, m) w) := by
  have he2 : (er != 0) = true := by simp [he]
  clear he
  have hX : ∀ k, h.X k → k < w.heap.size := fun k hk => (p.lt (Hd.XB hk)).2
  have hBB : ∀ k, h.B k → k < w.heap.size := fun k hk => (p.lt hk).2
  have hF := fun W p => Mm.fetch n0 h m W (s.pc.toNat : Int) p
  rw [hfe] at hF
  have HX := Lib.hid hX; have HBB := Lib.hid hBB; have HP := Lib.hid p; have HT := Lib.hid hT; have HF := Lib.hid hF
  clear hX hBB p hT hF hfe
  go_enter Tryd.func42, Tryd.ntmps42
  go_wp2_with fail
  obtain ⟨hsx, hbel⟩ := sx_new w s
  refine (HF.out _ (HP.out.below hbel)).mono ?_
  rintro e w1 ⟨rfl, nq, rfl⟩
  have HS := Lib.hid (hsx.drewN nq)
  have HB := Lib.hid (below_drewN hbel nq)
  obtain ⟨w1, hw1⟩ : ∃ w1, w1 = ((w.alloc (.cells (sC s) 51)).alloc (.cells (sC zS) 51)).drewN nq := ⟨_, rfl⟩
  rw [← hw1] at HS HB ⊢
  clear hw1 hsx hbel HF
  obtain ⟨n0, n1, n2, n3, n4, n5, n6, n7, n8, n9, n10, n11, n12⟩ := Blk.cells13 HS.out.b0
  obtain ⟨z0, z1, z2, z3, z4, z5, z6, z7, z8, z9, z10, z11, z12⟩ := Blk.cells13 HS.out.b1
  obtain ⟨f0, f1, f2, f3, f4, f5, f6, f7, f8, f9, f10, f11, f12⟩ := Blk.frozen13 HS.out.b1
  go_wp2_with fail
  clear n0 n1 n2 n3 n4 n5 n6 n7 n8 n9 n10 n11 n12 z0 z1 z2 z3 z4 z5 z6 z7 z8 z9 z10 z11 z12 f0 f1 f2 f3 f4 f5 f6 f7 f8 f9 f10 f11 f12
  obtain ⟨hB, hU⟩ := blk13 HS.out.b1 s
  have HL := Lib.hid (upd_b (Upd.of_below HB.out h.X) hU (by omega))
  have HPL := Lib.hid ((HP.out.below HB.out).upd hU (fun k hk e => by have := HBB.out k hk; omega))
  obtain ⟨w8, hw8⟩ : ∃ w8, put13 w1 (w.heap.size + 1) s = w8 := ⟨_, rfl⟩
  rw [hw8] at hB HL HPL
  simp only [put13] at hw8
  rw [hw8]
  clear hw8 hU
  obtain ⟨n0, n1, n2, n3, n4, n5, n6, n7, n8, n9, n10, n11, n12⟩ := Blk.cells13 hB
  exact bodyPost_ret (v := .tuple #[sv s, .bool false, .int .i64 er]) (by simp [results, Tryd.results42, go_sem, n0, n1, n2, n3, n4, n5, n6, n7, n8, n9, n10, n11, n12]) rfl ⟨rfl, HPL.out, HL.out⟩
set_option maxRecDepth 100000 in
set_option maxHeartbeats 2000000 in
theorem stepB (s : S) (n0 : Nat) (h : Hd) (m : St) (w : World) (p : PP n0 h m w) (hT : Tp.Tb w) (hf : Nat) (hh : hf < 65536) (hfe : fetchV m (s.pc.toNat : Int) = ((hf : Int), 0)) (k : Nat) (q : Tp.Nums) (er : Nat) (htf : Tp.takeF 21 0 hf = (k, q, er)) (he : er ≠ 0) : Calls Tryd.prog 42 #[sv s, ptr h.r] w (SpEnd n0 h (s, false, (er : Int), m) w) := by
  have he2 : ((er : Int) != 0) = true := by simp [he]
  obtain ⟨D, N, M, i⟩ := q
  have HTF := Lib.hid htf
  clear he htf
  have hX : ∀ k, h.X k → k < w.heap.size := fun k hk => (p.lt (Hd.XB hk)).2
  have hBB : ∀ k, h.B k → k < w.heap.size := fun k hk => (p.lt hk).2
  have hF := fun W p => Mm.fetch n0 h m W (s.pc.toNat : Int) p
  rw [hfe] at hF
  have HX := Lib.hid hX; have HBB := Lib.hid hBB; have HP := Lib.hid p; have HT := Lib.hid hT; have HF := Lib.hid hF
  clear hX hBB p hT hF hfe
  go_enter Tryd.func42, Tryd.ntmps42
  go_wp2_with fail
  obtain ⟨hsx, hbel⟩ := sx_new w s
  refine (HF.out _ (HP.out.below hbel)).mono ?_
  rintro e w1 ⟨rfl, nq, rfl⟩
  have HS := Lib.hid (hsx.drewN nq)
  have HB := Lib.hid (below_drewN hbel nq)
  obtain ⟨w1, hw1⟩ : ∃ w1, w1 = ((w.alloc (.cells (sC s) 51)).alloc (.cells (sC zS) 51)).drewN nq := ⟨_, rfl⟩
  rw [← hw1] at HS HB ⊢
  clear hw1 hsx hbel HF
  obtain ⟨n0, n1, n2, n3, n4, n5, n6, n7, n8, n9, n10, n11, n12⟩ := Blk.cells13 HS.out.b0
  obtain ⟨z0, z1, z2, z3, z4, z5, z6, z7, z8, z9, z10, z11, z12⟩ := Blk.cells13 HS.out.b1
  obtain ⟨f0, f1, f2, f3, f4, f5, f6, f7, f8, f9, f10, f11, f12⟩ := Blk.frozen13 HS.out.b1
  go_wp2_with fail
  refine (Tp.takeP hf hh _ (HT.out.below HB.out)).mono ?_
  rintro e w2 ⟨rfl, hb⟩
  rw [HTF.out, show Tp.resV (k, ⟨D, N, M, i⟩, er) = .tuple #[.agg #[.int .i64 (k : Nat), .int .i64 D, .int .i64 N, .int .i64 M, .int .i64 i], .int .i64 (er : Nat)] from rfl]
  have HS2 := Lib.hid (HS.out.below hb)
  have HB2 := Lib.hid (HB.out.trans (hb.mono HB.out.size))
  clear n0 n1 n2 n3 n4 n5 n6 n7 n8 n9 n10 n11 n12 z0 z1 z2 z3 z4 z5 z6 z7 z8 z9 z10 z11 z12 f0 f1 f2 f3 f4 f5 f6 f7 f8 f9 f10 f11 f12 hb HS HB
  go_upto_region 7 with fail
  have hx : Below w2.heap.size w2 (w2.alloc (.cells #[.int .i64 k, .int .i64 D, .int .i64 N, .int .i64 M, .int .i64 i] 58)) := (Below.refl _ _).alloc (Nat.le_refl _) _
  have HS3 := Lib.hid (HS2.out.below hx)
  have HB3 := Lib.hid (HB2.out.trans (hx.mono HB2.out.size))
  have HI3 := Lib.hid (Blk.new w2 58 #[.int .i64 k, .int .i64 D, .int .i64 N, .int .i64 M, .int .i64 i])
  obtain ⟨w3, hw3⟩ : ∃ w3, w2.alloc (.cells #[.int .i64 k, .int .i64 D, .int .i64 N, .int .i64 M, .int .i64 i] 58) = w3 := ⟨_, rfl⟩
  rw [hw3] at HS3 HB3 HI3 ⊢
  have hg : w.heap.size + 1 < w2.heap.size := HS2.out.b1.lt
  generalize w2.heap.size = g at *
  clear hw3 hx HS2 HB2
  obtain ⟨n0, n1, n2, n3, n4, n5, n6, n7, n8, n9, n10, n11, n12⟩ := Blk.cells13 HS3.out.b0
  obtain ⟨z0, z1, z2, z3, z4, z5, z6, z7, z8, z9, z10, z11, z12⟩ := Blk.cells13 HS3.out.b1
  obtain ⟨f0, f1, f2, f3, f4, f5, f6, f7, f8, f9, f10, f11, f12⟩ := Blk.frozen13 HS3.out.b1
  go_wp2_with fail
  clear n0 n1 n2 n3 n4 n5 n6 n7 n8 n9 n10 n11 n12 z0 z1 z2 z3 z4 z5 z6 z7 z8 z9 z10 z11 z12 f0 f1 f2 f3 f4 f5 f6 f7 f8 f9 f10 f11 f12
  obtain ⟨hB, hU⟩ := blk13 HS3.out.b1 s
  have HL := Lib.hid (upd_b (Upd.of_below HB3.out h.X) hU (by omega))
  have HPL := Lib.hid ((HP.out.below HB3.out).upd hU (fun k hk e => by have := HBB.out k hk; omega))
  obtain ⟨w8, hw8⟩ : ∃ w8, put13 w3 (w.heap.size + 1) s = w8 := ⟨_, rfl⟩
  rw [hw8] at hB HL HPL
  simp only [put13] at hw8
  rw [hw8]
  clear hw8 hU
  obtain ⟨n0, n1, n2, n3, n4, n5, n6, n7, n8, n9, n10, n11, n12⟩ := Blk.cells13 hB
  exact bodyPost_ret (v := .tuple #[sv s, .bool false, .int .i64 er]) (by simp [results, Tryd.results42, go_sem, n0, n1, n2, n3, n4, n5, n6, n7, n8, n9, n10, n11, n12]) rfl ⟨rfl, HPL.out, HL.out⟩
set_option maxRecDepth 100000 in
set_option maxHeartbeats 2000000 in
theorem stepC (s : S) (n0 : Nat) (h : Hd) (m : St) (w : World) (p : PP n0 h m w) (hT : Tp.Tb w) (hf : Nat) (hh : hf < 65536) (hfe : fetchV m (s.pc.toNat : Int) = ((hf : Int), 0)) (D N M : Nat) (i : Int) (htf : Tp.takeF 21 0 hf = (20, ⟨D, N, M, i⟩, 0)) : Calls Tryd.prog 42 #[sv s, ptr h.r] w (SpEnd n0 h (s, true, 0, m) w) := by
  have HTF := Lib.hid htf
  clear htf
  have hX : ∀ k, h.X k → k < w.heap.size := fun k hk => (p.lt (Hd.XB hk)).2
  have hBB : ∀ k, h.B k → k < w.heap.size := fun k hk => (p.lt hk).2
  have hF := fun W p => Mm.fetch n0 h m W (s.pc.toNat : Int) p
  rw [hfe] at hF
  have HX := Lib.hid hX; have HBB := Lib.hid hBB; have HP := Lib.hid p; have HT := Lib.hid hT; have HF := Lib.hid hF
  clear hX hBB p hT hF hfe
  go_enter Tryd.func42, Tryd.ntmps42
  go_wp2_with fail
  obtain ⟨hsx, hbel⟩ := sx_new w s
  refine (HF.out _ (HP.out.below hbel)).mono ?_
  rintro e w1 ⟨rfl, nq, rfl⟩
  have HS := Lib.hid (hsx.drewN nq)
  have HB := Lib.hid (below_drewN hbel nq)
  obtain ⟨w1, hw1⟩ : ∃ w1, w1 = ((w.alloc (.cells (sC s) 51)).alloc (.cells (sC zS) 51)).drewN nq := ⟨_, rfl⟩
  rw [← hw1] at HS HB ⊢
  clear hw1 hsx hbel HF
  obtain ⟨n0, n1, n2, n3, n4, n5, n6, n7, n8, n9, n10, n11, n12⟩ := Blk.cells13 HS.out.b0
  obtain ⟨z0, z1, z2, z3, z4, z5, z6, z7, z8, z9, z10, z11, z12⟩ := Blk.cells13 HS.out.b1
  obtain ⟨f0, f1, f2, f3, f4, f5, f6, f7, f8, f9, f10, f11, f12⟩ := Blk.frozen13 HS.out.b1
  go_wp2_with fail
  refine (Tp.takeP hf hh _ (HT.out.below HB.out)).mono ?_
  rintro e w2 ⟨rfl, hb⟩
  rw [HTF.out, show Tp.resV (20, ⟨D, N, M, i⟩, 0) = .tuple #[.agg #[.int .i64 (20 : Nat), .int .i64 D, .int .i64 N, .int .i64 M, .int .i64 i], .int .i64 (0 : Nat)] from rfl]
  have HS2 := Lib.hid (HS.out.below hb)
  have HB2 := Lib.hid (HB.out.trans (hb.mono HB.out.size))
  clear n0 n1 n2 n3 n4 n5 n6 n7 n8 n9 n10 n11 n12 z0 z1 z2 z3 z4 z5 z6 z7 z8 z9 z10 z11 z12 f0 f1 f2 f3 f4 f5 f6 f7 f8 f9 f10 f11 f12 hb HS HB
  go_upto_region 7 with fail
  have hx : Below w2.heap.size w2 (w2.alloc (.cells #[.int .i64 20, .int .i64 D, .int .i64 N, .int .i64 M, .int .i64 i] 58)) := (Below.refl _ _).alloc (Nat.le_refl _) _
  have HS3 := Lib.hid (HS2.out.below hx)
  have HB3 := Lib.hid (HB2.out.trans (hx.mono HB2.out.size))
  have HI3 := Lib.hid (Blk.new w2 58 #[.int .i64 20, .int .i64 D, .int .i64 N, .int .i64 M, .int .i64 i])
  obtain ⟨w3, hw3⟩ : ∃ w3, w2.alloc (.cells #[.int .i64 20, .int .i64 D, .int .i64 N, .int .i64 M, .int .i64 i] 58) = w3 := ⟨_, rfl⟩
  rw [hw3] at HS3 HB3 HI3 ⊢
  have hg : w.heap.size + 1 < w2.heap.size := HS2.out.b1.lt
  generalize w2.heap.size = g at *
  clear hw3 hx HS2 HB2
  obtain ⟨n0, n1, n2, n3, n4, n5, n6, n7, n8, n9, n10, n11, n12⟩ := Blk.cells13 HS3.out.b0
  obtain ⟨z0, z1, z2, z3, z4, z5, z6, z7, z8, z9, z10, z11, z12⟩ := Blk.cells13 HS3.out.b1
  obtain ⟨f0, f1, f2, f3, f4, f5, f6, f7, f8, f9, f10, f11, f12⟩ := Blk.frozen13 HS3.out.b1
  have i0 : w3.cell? ⟨g, 0, none⟩ = some (.int .i64 20) := HI3.out.cell 0
  have i1 : w3.cell? ⟨g, 1, none⟩ = some (.int .i64 D) := HI3.out.cell 1
  have i2 : w3.cell? ⟨g, 2, none⟩ = some (.int .i64 N) := HI3.out.cell 2
  have i3 : w3.cell? ⟨g, 3, none⟩ = some (.int .i64 M) := HI3.out.cell 3
  have i4 : w3.cell? ⟨g, 4, none⟩ = some (.int .i64 i) := HI3.out.cell 4
  go_wp2_with fail
  clear i0 i1 i2 i3 i4
  clear n0 n1 n2 n3 n4 n5 n6 n7 n8 n9 n10 n11 n12 z0 z1 z2 z3 z4 z5 z6 z7 z8 z9 z10 z11 z12 f0 f1 f2 f3 f4 f5 f6 f7 f8 f9 f10 f11 f12
  obtain ⟨hB, hU⟩ := blk13 HS3.out.b1 s
  have HL := Lib.hid (upd_b (Upd.of_below HB3.out h.X) hU (by omega))
  have HPL := Lib.hid ((HP.out.below HB3.out).upd hU (fun k hk e => by have := HBB.out k hk; omega))
  obtain ⟨w8, hw8⟩ : ∃ w8, put13 w3 (w.heap.size + 1) s = w8 := ⟨_, rfl⟩
  rw [hw8] at hB HL HPL
  simp only [put13] at hw8
  rw [hw8]
  clear hw8 hU
  obtain ⟨n0, n1, n2, n3, n4, n5, n6, n7, n8, n9, n10, n11, n12⟩ := Blk.cells13 hB
  exact bodyPost_ret (v := .tuple #[sv s, .bool true, .int .i64 0]) (by simp [results, Tryd.results42, go_sem, n0, n1, n2, n3, n4, n5, n6, n7, n8, n9, n10, n11, n12]) rfl ⟨rfl, HPL.out, HL.out⟩
set_option maxRecDepth 100000 in
set_option maxHeartbeats 2000000 in
theorem stepD (s : S) (n0 : Nat) (h : Hd) (m : St) (w : World) (p : PP n0 h m w) (hT : Tp.Tb w) (hf : Nat) (hh : hf < 65536) (hfe : fetchV m (s.pc.toNat : Int) = ((hf : Int), 0)) (k D N M : Nat) (i : Int) (hw : Wi k D N M i) (htf : Tp.takeF 21 0 hf = (k, ⟨D, N, M, i⟩, 0)) (hk : k < 20) (he : (doS k D N M i s m).2.1 ≠ 0) : Calls Tryd.prog 42 #[sv s, ptr h.r] w (SpEnd n0 h (s, false, (doS k D N M i s m).2.1, (doS k D N M i s m).2.2) w) := by
  have hC := fun W p hT => cdo k D N M i hw hk s n0 h m W p hT
  have e20 : ((k : Int) == 20) = false := by simp; omega
  generalize doS k D N M i s m = r at *
  obtain ⟨s', er, m'⟩ := r
  have he2 : (er != 0) = true := by simpa using he
  
  have hC' : ∀ W, PP n0 h m W → Tp.Tb W → Calls Tryd.prog 61 #[.agg (iC k D N M i), sv s, ptr h.r] W (DoEnd n0 h s' er m' W) := hC
  show Calls _ _ _ _ (SpEnd n0 h (s, false, er, m') w)
  have HTF := Lib.hid htf; have HC := Lib.hid hC'
  clear he htf hw hk hC hC'
  have hX : ∀ k, h.X k → k < w.heap.size := fun k hk => (p.lt (Hd.XB hk)).2
  have hBB : ∀ k, h.B k → k < w.heap.size := fun k hk => (p.lt hk).2
  have hF := fun W p => Mm.fetch n0 h m W (s.pc.toNat : Int) p
  rw [hfe] at hF
  have HX := Lib.hid hX; have HBB := Lib.hid hBB; have HP := Lib.hid p; have HT := Lib.hid hT; have HF := Lib.hid hF
  clear hX hBB p hT hF hfe
  go_enter Tryd.func42, Tryd.ntmps42
  go_wp2_with fail
  obtain ⟨hsx, hbel⟩ := sx_new w s
  refine (HF.out _ (HP.out.below hbel)).mono ?_
  rintro e w1 ⟨rfl, nq, rfl⟩
  have HS := Lib.hid (hsx.drewN nq)
  have HB := Lib.hid (below_drewN hbel nq)
  obtain ⟨w1, hw1⟩ : ∃ w1, w1 = ((w.alloc (.cells (sC s) 51)).alloc (.cells (sC zS) 51)).drewN nq := ⟨_, rfl⟩
  rw [← hw1] at HS HB ⊢
  clear hw1 hsx hbel HF
  obtain ⟨n0, n1, n2, n3, n4, n5, n6, n7, n8, n9, n10, n11, n12⟩ := Blk.cells13 HS.out.b0
  obtain ⟨z0, z1, z2, z3, z4, z5, z6, z7, z8, z9, z10, z11, z12⟩ := Blk.cells13 HS.out.b1
  obtain ⟨f0, f1, f2, f3, f4, f5, f6, f7, f8, f9, f10, f11, f12⟩ := Blk.frozen13 HS.out.b1
  go_wp2_with fail
  refine (Tp.takeP hf hh _ (HT.out.below HB.out)).mono ?_
  rintro e w2 ⟨rfl, hb⟩
  rw [HTF.out, show Tp.resV (k, ⟨D, N, M, i⟩, 0) = .tuple #[.agg #[.int .i64 (k : Nat), .int .i64 D, .int .i64 N, .int .i64 M, .int .i64 i], .int .i64 (0 : Nat)] from rfl]
  have HS2 := Lib.hid (HS.out.below hb)
  have HB2 := Lib.hid (HB.out.trans (hb.mono HB.out.size))
  clear n0 n1 n2 n3 n4 n5 n6 n7 n8 n9 n10 n11 n12 z0 z1 z2 z3 z4 z5 z6 z7 z8 z9 z10 z11 z12 f0 f1 f2 f3 f4 f5 f6 f7 f8 f9 f10 f11 f12 hb HS HB
  go_upto_region 7 with fail
  have hx : Below w2.heap.size w2 (w2.alloc (.cells (iC k D N M i) 58)) := (Below.refl _ _).alloc (Nat.le_refl _) _
  have HS3 := Lib.hid (HS2.out.below hx)
  have HB3 := Lib.hid (HB2.out.trans (hx.mono HB2.out.size))
  have HI3 := Lib.hid (Blk.new w2 58 (iC k D N M i))
  obtain ⟨w3, hw3⟩ : ∃ w3, w2.alloc (.cells (iC k D N M i) 58) = w3 := ⟨_, rfl⟩
  rw [hw3] at HS3 HB3 HI3 ⊢
  have hg : w.heap.size + 1 < w2.heap.size := HS2.out.b1.lt
  generalize w2.heap.size = g at *
  clear hw3 hx HS2 HB2
  obtain ⟨n0, n1, n2, n3, n4, n5, n6, n7, n8, n9, n10, n11, n12⟩ := Blk.cells13 HS3.out.b0
  obtain ⟨z0, z1, z2, z3, z4, z5, z6, z7, z8, z9, z10, z11, z12⟩ := Blk.cells13 HS3.out.b1
  obtain ⟨f0, f1, f2, f3, f4, f5, f6, f7, f8, f9, f10, f11, f12⟩ := Blk.frozen13 HS3.out.b1
  have i0 : w3.cell? ⟨g, 0, none⟩ = some (.int .i64 k) := HI3.out.cell 0
  have i1 : w3.cell? ⟨g, 1, none⟩ = some (.int .i64 D) := HI3.out.cell 1
  have i2 : w3.cell? ⟨g, 2, none⟩ = some (.int .i64 N) := HI3.out.cell 2
  have i3 : w3.cell? ⟨g, 3, none⟩ = some (.int .i64 M) := HI3.out.cell 3
  have i4 : w3.cell? ⟨g, 4, none⟩ = some (.int .i64 i) := HI3.out.cell 4
  go_wp2_with fail
  refine (HC.out _ (HP.out.below HB3.out) (HT.out.below HB3.out)).mono ?_
  rintro e w4 ⟨rfl, hp4, hu4⟩
  have HS4 := Lib.hid (HS3.out.upd hu4 HX.out)
  have HU4 := Lib.hid ((Upd.of_below HB3.out h.X).trans hu4)
  have HP4 := Lib.hid hp4
  clear n0 n1 n2 n3 n4 n5 n6 n7 n8 n9 n10 n11 n12 z0 z1 z2 z3 z4 z5 z6 z7 z8 z9 z10 z11 z12 f0 f1 f2 f3 f4 f5 f6 f7 f8 f9 f10 f11 f12 i0 i1 i2 i3 i4 hp4 hu4 HS3 HI3 HC HB3
  go_upto_region 12 with fail
  have hx : Below w4.heap.size w4 (w4.alloc (.cells (sC s') 51)) := (Below.refl _ _).alloc (Nat.le_refl _) _
  have HS5 := Lib.hid (HS4.out.below hx)
  have HU5 := Lib.hid (HU4.out.trans (Upd.of_below hx h.X))
  have HP5 := Lib.hid (HP4.out.below hx)
  have HI5 := Lib.hid (Blk.new w4 51 (sC s'))
  obtain ⟨w5, hw5⟩ : ∃ w5, w4.alloc (.cells (sC s') 51) = w5 := ⟨_, rfl⟩
  rw [hw5] at HS5 HU5 HP5 HI5
  simp only [sC] at hw5
  rw [hw5]
  generalize w4.heap.size = g5 at *
  clear hw5 hx HS4 HU4 HP4
  obtain ⟨n0, n1, n2, n3, n4, n5, n6, n7, n8, n9, n10, n11, n12⟩ := Blk.cells13 HS5.out.b0
  obtain ⟨z0, z1, z2, z3, z4, z5, z6, z7, z8, z9, z10, z11, z12⟩ := Blk.cells13 HS5.out.b1
  obtain ⟨f0, f1, f2, f3, f4, f5, f6, f7, f8, f9, f10, f11, f12⟩ := Blk.frozen13 HS5.out.b1
  go_wp2_with fail
  clear n0 n1 n2 n3 n4 n5 n6 n7 n8 n9 n10 n11 n12 z0 z1 z2 z3 z4 z5 z6 z7 z8 z9 z10 z11 z12 f0 f1 f2 f3 f4 f5 f6 f7 f8 f9 f10 f11 f12
  obtain ⟨hB, hU⟩ := blk13 HS5.out.b1 s
  have HL := Lib.hid (upd_b HU5.out hU (by omega))
  have HPL := Lib.hid ((HP5.out).upd hU (fun k hk e => by have := HBB.out k hk; omega))
  obtain ⟨w8, hw8⟩ : ∃ w8, put13 w5 (w.heap.size + 1) s = w8 := ⟨_, rfl⟩
  rw [hw8] at hB HL HPL
  simp only [put13] at hw8
  rw [hw8]
  clear hw8 hU
  obtain ⟨n0, n1, n2, n3, n4, n5, n6, n7, n8, n9, n10, n11, n12⟩ := Blk.cells13 hB
  exact bodyPost_ret (v := .tuple #[sv s, .bool false, .int .i64 er]) (by simp [results, Tryd.results42, go_sem, n0, n1, n2, n3, n4, n5, n6, n7, n8, n9, n10, n11, n12]) rfl ⟨rfl, HPL.out, HL.out⟩
set_option maxRecDepth 100000 in
set_option maxHeartbeats 2000000 in
theorem stepE (s : S) (n0 : Nat) (h : Hd) (m : St) (w : World) (p : PP n0 h m w) (hT : Tp.Tb w) (hf : Nat) (hh : hf < 65536) (hfe : fetchV m (s.pc.toNat : Int) = ((hf : Int), 0)) (k D N M : Nat) (i : Int) (hw : Wi k D N M i) (htf : Tp.takeF 21 0 hf = (k, ⟨D, N, M, i⟩, 0)) (hk : k < 20) (he : (doS k D N M i s m).2.1 = 0) : Calls Tryd.prog 42 #[sv s, ptr h.r] w (SpEnd n0 h ((doS k D N M i s m).1, false, 0, (doS k D N M i s m).2.2) w) := by
  have hC := fun W p hT => cdo k D N M i hw hk s n0 h m W p hT
  have e20 : ((k : Int) == 20) = false := by simp; omega
  generalize doS k D N M i s m = r at *
  obtain ⟨s', er, m'⟩ := r
  have he1 : er = 0 := he
  subst he1
  have hC' : ∀ W, PP n0 h m W → Tp.Tb W → Calls Tryd.prog 61 #[.agg (iC k D N M i), sv s, ptr h.r] W (DoEnd n0 h s' 0 m' W) := hC
  show Calls _ _ _ _ (SpEnd n0 h (s', false, 0, m') w)
  have HTF := Lib.hid htf; have HC := Lib.hid hC'
  clear he htf hw hk hC hC'
  have hX : ∀ k, h.X k → k < w.heap.size := fun k hk => (p.lt (Hd.XB hk)).2
  have hBB : ∀ k, h.B k → k < w.heap.size := fun k hk => (p.lt hk).2
  have hF := fun W p => Mm.fetch n0 h m W (s.pc.toNat : Int) p
  rw [hfe] at hF
  have HX := Lib.hid hX; have HBB := Lib.hid hBB; have HP := Lib.hid p; have HT := Lib.hid hT; have HF := Lib.hid hF
  clear hX hBB p hT hF hfe
  go_enter Tryd.func42, Tryd.ntmps42
  go_wp2_with fail
  obtain ⟨hsx, hbel⟩ := sx_new w s
  refine (HF.out _ (HP.out.below hbel)).mono ?_
  rintro e w1 ⟨rfl, nq, rfl⟩
  have HS := Lib.hid (hsx.drewN nq)
  have HB := Lib.hid (below_drewN hbel nq)
  obtain ⟨w1, hw1⟩ : ∃ w1, w1 = ((w.alloc (.cells (sC s) 51)).alloc (.cells (sC zS) 51)).drewN nq := ⟨_, rfl⟩
  rw [← hw1] at HS HB ⊢
  clear hw1 hsx hbel HF
  obtain ⟨n0, n1, n2, n3, n4, n5, n6, n7, n8, n9, n10, n11, n12⟩ := Blk.cells13 HS.out.b0
  obtain ⟨z0, z1, z2, z3, z4, z5, z6, z7, z8, z9, z10, z11, z12⟩ := Blk.cells13 HS.out.b1
  obtain ⟨f0, f1, f2, f3, f4, f5, f6, f7, f8, f9, f10, f11, f12⟩ := Blk.frozen13 HS.out.b1
  go_wp2_with fail
  refine (Tp.takeP hf hh _ (HT.out.below HB.out)).mono ?_
  rintro e w2 ⟨rfl, hb⟩
  rw [HTF.out, show Tp.resV (k, ⟨D, N, M, i⟩, 0) = .tuple #[.agg #[.int .i64 (k : Nat), .int .i64 D, .int .i64 N, .int .i64 M, .int .i64 i], .int .i64 (0 : Nat)] from rfl]
  have HS2 := Lib.hid (HS.out.below hb)
  have HB2 := Lib.hid (HB.out.trans (hb.mono HB.out.size))
  clear n0 n1 n2 n3 n4 n5 n6 n7 n8 n9 n10 n11 n12 z0 z1 z2 z3 z4 z5 z6 z7 z8 z9 z10 z11 z12 f0 f1 f2 f3 f4 f5 f6 f7 f8 f9 f10 f11 f12 hb HS HB
  go_upto_region 7 with fail
  have hx : Below w2.heap.size w2 (w2.alloc (.cells (iC k D N M i) 58)) := (Below.refl _ _).alloc (Nat.le_refl _) _
  have HS3 := Lib.hid (HS2.out.below hx)
  have HB3 := Lib.hid (HB2.out.trans (hx.mono HB2.out.size))
  have HI3 := Lib.hid (Blk.new w2 58 (iC k D N M i))
  obtain ⟨w3, hw3⟩ : ∃ w3, w2.alloc (.cells (iC k D N M i) 58) = w3 := ⟨_, rfl⟩
  rw [hw3] at HS3 HB3 HI3 ⊢
  have hg : w.heap.size + 1 < w2.heap.size := HS2.out.b1.lt
  generalize w2.heap.size = g at *
  clear hw3 hx HS2 HB2
  obtain ⟨n0, n1, n2, n3, n4, n5, n6, n7, n8, n9, n10, n11, n12⟩ := Blk.cells13 HS3.out.b0
  obtain ⟨z0, z1, z2, z3, z4, z5, z6, z7, z8, z9, z10, z11, z12⟩ := Blk.cells13 HS3.out.b1
  obtain ⟨f0, f1, f2, f3, f4, f5, f6, f7, f8, f9, f10, f11, f12⟩ := Blk.frozen13 HS3.out.b1
  have i0 : w3.cell? ⟨g, 0, none⟩ = some (.int .i64 k) := HI3.out.cell 0
  have i1 : w3.cell? ⟨g, 1, none⟩ = some (.int .i64 D) := HI3.out.cell 1
  have i2 : w3.cell? ⟨g, 2, none⟩ = some (.int .i64 N) := HI3.out.cell 2
  have i3 : w3.cell? ⟨g, 3, none⟩ = some (.int .i64 M) := HI3.out.cell 3
  have i4 : w3.cell? ⟨g, 4, none⟩ = some (.int .i64 i) := HI3.out.cell 4
  go_wp2_with fail
  refine (HC.out _ (HP.out.below HB3.out) (HT.out.below HB3.out)).mono ?_
  rintro e w4 ⟨rfl, hp4, hu4⟩
  have HS4 := Lib.hid (HS3.out.upd hu4 HX.out)
  have HU4 := Lib.hid ((Upd.of_below HB3.out h.X).trans hu4)
  have HP4 := Lib.hid hp4
  clear n0 n1 n2 n3 n4 n5 n6 n7 n8 n9 n10 n11 n12 z0 z1 z2 z3 z4 z5 z6 z7 z8 z9 z10 z11 z12 f0 f1 f2 f3 f4 f5 f6 f7 f8 f9 f10 f11 f12 i0 i1 i2 i3 i4 hp4 hu4 HS3 HI3 HC HB3
  go_upto_region 12 with fail
  have hx : Below w4.heap.size w4 (w4.alloc (.cells (sC s') 51)) := (Below.refl _ _).alloc (Nat.le_refl _) _
  have HS5 := Lib.hid (HS4.out.below hx)
  have HU5 := Lib.hid (HU4.out.trans (Upd.of_below hx h.X))
  have HP5 := Lib.hid (HP4.out.below hx)
  have HI5 := Lib.hid (Blk.new w4 51 (sC s'))
  obtain ⟨w5, hw5⟩ : ∃ w5, w4.alloc (.cells (sC s') 51) = w5 := ⟨_, rfl⟩
  rw [hw5] at HS5 HU5 HP5 HI5
  simp only [sC] at hw5
  rw [hw5]
  generalize w4.heap.size = g5 at *
  clear hw5 hx HS4 HU4 HP4
  obtain ⟨n0, n1, n2, n3, n4, n5, n6, n7, n8, n9, n10, n11, n12⟩ := Blk.cells13 HI5.out
  obtain ⟨z0, z1, z2, z3, z4, z5, z6, z7, z8, z9, z10, z11, z12⟩ := Blk.cells13 HS5.out.b1
  obtain ⟨f0, f1, f2, f3, f4, f5, f6, f7, f8, f9, f10, f11, f12⟩ := Blk.frozen13 HS5.out.b1
  go_wp2_with fail
  clear n0 n1 n2 n3 n4 n5 n6 n7 n8 n9 n10 n11 n12 z0 z1 z2 z3 z4 z5 z6 z7 z8 z9 z10 z11 z12 f0 f1 f2 f3 f4 f5 f6 f7 f8 f9 f10 f11 f12
  obtain ⟨hB, hU⟩ := blk13 HS5.out.b1 s'
  have HL := Lib.hid (upd_b HU5.out hU (by omega))
  have HPL := Lib.hid ((HP5.out).upd hU (fun k hk e => by have := HBB.out k hk; omega))
  obtain ⟨w8, hw8⟩ : ∃ w8, put13 w5 (w.heap.size + 1) s' = w8 := ⟨_, rfl⟩
  rw [hw8] at hB HL HPL
  simp only [put13] at hw8
  rw [hw8]
  clear hw8 hU
  obtain ⟨n0, n1, n2, n3, n4, n5, n6, n7, n8, n9, n10, n11, n12⟩ := Blk.cells13 hB
  exact bodyPost_ret (v := .tuple #[sv s', .bool false, .int .i64 0]) (by simp [results, Tryd.results42, go_sem, n0, n1, n2, n3, n4, n5, n6, n7, n8, n9, n10, n11, n12]) rfl ⟨rfl, HPL.out, HL.out⟩
theorem cstep (s : S) (n0 : Nat) (h : Hd) (m : St) (w : World) (p : PP n0 h m w) (hT : Tp.Tb w) : Calls Tryd.prog 42 #[sv s, ptr h.r] w (SpEnd n0 h (stepV s m) w) := by
  have hb := fetch_in p.fit (s.pc.toNat : Int)
  unfold stepV
  rcases hfe : fetchV m (s.pc.toNat : Int) with ⟨hz, er⟩
  rw [hfe] at hb
  simp only at hb ⊢
  obtain ⟨hf, rfl⟩ := Int.eq_ofNat_of_zero_le hb.1
  by_cases he : er = 0
  · subst he
    rw [if_pos rfl]
    simp only [Int.toNat_natCast]
    rcases ht : Tp.takeF 21 0 hf with ⟨k, q, e2⟩
    simp only
    by_cases he2 : e2 = 0
    · subst he2
      rw [if_pos rfl]
      obtain ⟨_, h2, _, h4⟩ := Tp.takeF_ok hf 21 0 k q ht
      obtain ⟨D, N, M, hq, hw⟩ := wi_of k (by omega) q h2
      have hq2 : q = ⟨D, N, M, q.i⟩ := hq
      generalize q.i = i at *
      subst hq2
      simp only [Int.toNat_natCast]
      by_cases h20 : k = 20
      · rw [if_pos h20]
        subst h20
        exact stepC s n0 h m w p hT hf (by omega) hfe D N M i ht
      · rw [if_neg h20]
        have := hw.lt
        by_cases hd : (doS k D N M i s m).2.1 = 0
        · rw [if_pos hd]
          exact stepE s n0 h m w p hT hf (by omega) hfe k D N M i hw ht (by omega) hd
        · rw [if_neg hd]
          exact stepD s n0 h m w p hT hf (by omega) hfe k D N M i hw ht (by omega) hd
    · rw [if_neg he2]
      exact stepB s n0 h m w p hT hf (by omega) hfe k q e2 ht he2
  · rw [if_neg he]
    have h0 : (hf : Int) = 0 := by
      have : fetchV m (s.pc.toNat : Int) = ((hf : Int), er) := hfe
      unfold fetchV at this
      split at this
      · exact absurd (Prod.mk.inj this).2.symm he
      · exact (Prod.mk.inj this).1.symm
    rw [h0] at hfe
    exact stepA s n0 h m w p hT er hfe he
end Go.Proofs.YtkafmpdjpjgkgaaDoor.Co
