/- DERIVED. CoCmp in one text. By an AI agent. -/
import Derived.Test.YtkafmpdjpjgkgaaDoorZ10
/- DERIVED. The contract of the program's compute. By an AI agent. -/
namespace Go.Proofs.YtkafmpdjpjgkgaaDoor.Co
open Go.ChangeShapes Go.WideShapes Go.ChangeAt Go.RowKit WMath Word Ref Args
set_option linter.unusedVariables false
set_option linter.unusedSimpArgs false
/-- What comes of an instruction that reckons. -/
def cmp3 (op D N M : Nat) (imm : BitVec 32) (s : S) : R3 :=
  if op = 0 then ⟨imm, s.c, s.v⟩ else if op = 4 then sh3 0 (s.r M) imm.toNat s.c s.v else if op = 5 then sh3 1 (s.r M) imm.toNat s.c s.v else if op = 6 then sh3 2 (s.r M) imm.toNat s.c s.v
  else if op = 2 then sum3 (s.r D) imm false else if op = 1 ∨ op = 3 then sum3 (s.r D) (~~~imm) true
  else if op = 7 then sum3 (s.r N) (s.r M) false else if op = 8 then sum3 (s.r N) (~~~(s.r M)) true
  else if op = 9 then sum3 (s.r N) imm false else if op = 10 then sum3 (s.r N) (~~~imm) true
  else alu3 imm.toNat (s.r D) (s.r M) s.c s.v
abbrev iC (op D N M : Nat) (i : Int) : Array Value := #[.int .i64 op, .int .i64 D, .int .i64 N, .int .i64 M, .int .i64 i]
theorem _root_.Go.Proofs.YtkafmpdjpjgkgaaDoor.Args.Blk.drewN {w : World} {g : Nat} {t : TypeId} {cs : Array Value} (h : Blk w g t cs) (n : Nat) : Blk (w.drewN n) g t cs := h
theorem _root_.Go.Proofs.YtkafmpdjpjgkgaaDoor.Args.Blk.reg {w : World} {g : Nat} {t : TypeId} {s : S} (h : Blk w g t (sC s)) (k : Nat) (hk : k < 8) : w.cell? ⟨g, k, none⟩ = some (u (s.r k)) := (h.cell k).trans (sC_get s k hk)
theorem _root_.Go.Proofs.YtkafmpdjpjgkgaaDoor.Args.Blk.up {w : World} {g : Nat} {t : TypeId} {s : S} (h : Blk w g t (sC s)) (k : Nat) (hk : k < 8) (x : BitVec 32) : Blk (w.setCell ⟨g, k, none⟩ (u x)) g t (sC (s.up k x)) := blk_one h k (u x) (sC_set s k hk x)
/-- What lies behind the heads of compute. -/
structure Cm (w : World) (op D N M : Nat) (i : Int) (s : S) (W : World) : Prop where
  b0 : Blk W w.heap.size 58 (iC op D N M i)
  b1 : Blk W (w.heap.size + 1) 51 (sC s)
  b2 : Blk W (w.heap.size + 1 + 1) 128 #[.bool false, .bool false]
  size : W.heap.size = w.heap.size + 3
  low : Below w.heap.size w W
theorem cm_new (w : World) (op D N M : Nat) (i : Int) (s : S) : Cm w op D N M i s (((w.alloc (.cells (iC op D N M i) 58)).alloc (.cells (sC s) 51)).alloc (.cells #[.bool false, .bool false] 128)) := by
  have h0 := Blk.new w 58 (iC op D N M i)
  have h1 := Blk.new (w.alloc (.cells (iC op D N M i) 58)) 51 (sC s)
  have h2 := Blk.new ((w.alloc (.cells (iC op D N M i) 58)).alloc (.cells (sC s) 51)) 128 #[.bool false, .bool false]
  simp only [World.size_alloc] at h1 h2
  exact ⟨(h0.alloc _).alloc _, h1.alloc _, h2, by simp, ((((Below.refl _ _).alloc (Nat.le_refl _) _).alloc (by simp) _).alloc (by simp; omega) _)⟩
theorem Cm.drewN {w W : World} {op D N M : Nat} {i : Int} {s : S} (h : Cm w op D N M i s W) (n : Nat) : Cm w op D N M i s (W.drewN n) :=
  ⟨h.b0, h.b1, h.b2, h.size, below_drewN h.low n⟩
set_option maxRecDepth 100000 in
set_option maxHeartbeats 2000000 in
theorem wcmp0 (D N M : Nat) (hD : D < 8) (hN : N < 8) (hM : M < 8) (imm : BitVec 32) (hi : imm.toNat < 256) (s : S) (w : World) : Calls Tryd.prog 77 #[.agg (iC 0 D N M imm.toNat), sv s] w fun e w' => e = .returned (rV (cmp3 0 D N M imm s)) ∧ Below w.heap.size w w' := by
  have e : cmp3 0 D N M imm s = ⟨imm, s.c, s.v⟩ := rfl
  rw [e]
  have hcm := cm_new w 0 D N M imm.toNat s
  have hD2 : (D : Int) < 8 := by omega
  have hN2 : (N : Int) < 8 := by omega
  have hM2 : (M : Int) < 8 := by omega
  have hi2 : (imm.toNat : Int) < 256 := by omega
  have rD := fun (W : World) (h : Blk W (w.heap.size + 1) 51 (sC s)) => h.reg D hD
  have rN := fun (W : World) (h : Blk W (w.heap.size + 1) 51 (sC s)) => h.reg N hN
  have rM := fun (W : World) (h : Blk W (w.heap.size + 1) 51 (sC s)) => h.reg M hM
  have RD := Lib.hid rD; have RN := Lib.hid rN; have RM := Lib.hid rM; have HCM := Lib.hid hcm
  clear rD rN rM hcm
  go_enter Tryd.func77, Tryd.ntmps77
  go_wp2_with fail
  obtain ⟨W0, hW0⟩ : ∃ W0, W0 = ((w.alloc (.cells (iC 0 D N M imm.toNat) 58)).alloc (.cells (sC s) 51)).alloc (.cells #[.bool false, .bool false] 128) := ⟨_, rfl⟩
  rw [← hW0] at HCM ⊢
  clear hW0
  have i0 : W0.cell? ⟨w.heap.size, 0, none⟩ = some (.int .i64 0) := HCM.out.b0.cell 0
  have i1 : W0.cell? ⟨w.heap.size, 1, none⟩ = some (.int .i64 D) := HCM.out.b0.cell 1
  have i2 : W0.cell? ⟨w.heap.size, 2, none⟩ = some (.int .i64 N) := HCM.out.b0.cell 2
  have i3 : W0.cell? ⟨w.heap.size, 3, none⟩ = some (.int .i64 M) := HCM.out.b0.cell 3
  have i4 : W0.cell? ⟨w.heap.size, 4, none⟩ = some (.int .i64 (imm.toNat : Int)) := HCM.out.b0.cell 4
  have s0 := RD.out _ HCM.out.b1; have s1 := RN.out _ HCM.out.b1; have s2 := RM.out _ HCM.out.b1
  have s11 : W0.cell? ⟨w.heap.size + 1, 11, none⟩ = some (.bool s.c) := HCM.out.b1.cell 11
  have s12 : W0.cell? ⟨w.heap.size + 1, 12, none⟩ = some (.bool s.v) := HCM.out.b1.cell 12
  go_quiet (fail)
  have HC1 := Lib.hid (HCM.out.drewN nq)
  have j4 : (W0.drewN nq).cell? ⟨w.heap.size, 4, none⟩ = some (.int .i64 (imm.toNat : Int)) := i4
  have j0 : (W0.drewN nq).cell? ⟨w.heap.size, 0, none⟩ = some (.int .i64 0) := i0
  have t11 : (W0.drewN nq).cell? ⟨w.heap.size + 1, 11, none⟩ = some (.bool s.c) := s11
  have t12 : (W0.drewN nq).cell? ⟨w.heap.size + 1, 12, none⟩ = some (.bool s.v) := s12
  have hsz : (W0.drewN nq).heap.size = w.heap.size + 3 := HCM.out.size
  clear i0 i1 i2 i3 i4 s0 s1 s2 s11 s12 HCM RD RN RM
  generalize W0.drewN nq = W1 at *
  go_wp2_with fail
  have hk : Blk (W1.alloc (.cells #[.bool s.c, .bool s.v] 128)) (w.heap.size + 1 + 1) 128 #[.bool false, .bool false] := HC1.out.b2.alloc _
  have hb : Below w.heap.size w (W1.alloc (.cells #[.bool s.c, .bool s.v] 128)) := HC1.out.low.alloc (by omega) _
  have hf : Blk (W1.alloc (.cells #[.bool s.c, .bool s.v] 128)) (w.heap.size + 3) 128 #[.bool s.c, .bool s.v] := by
    have h3 := Blk.new W1 128 #[.bool s.c, .bool s.v]
    rwa [hsz] at h3
  have HK := Lib.hid hk; have HB := Lib.hid hb
  generalize W1.alloc (.cells #[.bool s.c, .bool s.v] 128) = w2 at *
  have k0 : w2.cell? ⟨w.heap.size + 1 + 1, 0, none⟩ = some (.bool false) := hk.cell 0
  have k1 : w2.cell? ⟨w.heap.size + 1 + 1, 1, none⟩ = some (.bool false) := hk.cell 1
  have f0 := hk.frozen 0; have f1 := hk.frozen 1
  have g0 : w2.cell? ⟨w.heap.size + 3, 0, none⟩ = some (.bool s.c) := hf.cell 0
  have g1 : w2.cell? ⟨w.heap.size + 3, 1, none⟩ = some (.bool s.v) := hf.cell 1
  clear hk hb hf
  go_region
  all_goals
    go_wp2_with fail
    obtain ⟨hB, hU⟩ := blk2 (show Blk w2.drew (w.heap.size + 1 + 1) 128 #[.bool false, .bool false] from HK.out) (.bool s.c) (.bool s.v)
    have HL := Lib.hid (upd_low HB.out.drew hU (by omega))
    obtain ⟨WW, hWW⟩ : ∃ WW, WW = (w2.drew.setCell ⟨w.heap.size + 1 + 1, 0, none⟩ (.bool s.c)).setCell ⟨w.heap.size + 1 + 1, 1, none⟩ (.bool s.v) := ⟨_, rfl⟩
    have hQ : ((w2.setCell ⟨w.heap.size + 1 + 1, 0, none⟩ (.bool s.c)).setCell ⟨w.heap.size + 1 + 1, 1, none⟩ (.bool s.v)).drew = WW := hWW.symm
    try rw [hQ]
    try rw [← hWW]
    rw [← hWW] at hB HL
    clear hQ hWW
    have r0 : WW.cell? ⟨w.heap.size + 1 + 1, 0, none⟩ = some (.bool s.c) := hB.cell 0
    have r1 : WW.cell? ⟨w.heap.size + 1 + 1, 1, none⟩ = some (.bool s.v) := hB.cell 1
    refine bodyPost_ret (v := rV ⟨imm, s.c, s.v⟩) (by simp [results, Tryd.results77, go_sem, r0, r1]) rfl ⟨rfl, HL.out⟩
set_option maxRecDepth 100000 in
set_option maxHeartbeats 2000000 in
theorem wcmp4 (D N M : Nat) (hD : D < 8) (hN : N < 8) (hM : M < 8) (imm : BitVec 32) (hi : imm.toNat < 256) (s : S) (w : World) : Calls Tryd.prog 77 #[.agg (iC 4 D N M imm.toNat), sv s] w fun e w' => e = .returned (rV (cmp3 4 D N M imm s)) ∧ Below w.heap.size w w' := by
  have e : cmp3 4 D N M imm s = sh3 0 (s.r M) imm.toNat s.c s.v := rfl
  rw [e]
  have hA := fun W => cshift 0 (s.r M) imm.toNat (by omega) s.c s.v W
  generalize sh3 0 (s.r M) imm.toNat s.c s.v = x at hA ⊢
  have HA := Lib.hid hA
  clear hA e
  have hcm := cm_new w 4 D N M imm.toNat s
  have hD2 : (D : Int) < 8 := by omega
  have hN2 : (N : Int) < 8 := by omega
  have hM2 : (M : Int) < 8 := by omega
  have hi2 : (imm.toNat : Int) < 256 := by omega
  have rD := fun (W : World) (h : Blk W (w.heap.size + 1) 51 (sC s)) => h.reg D hD
  have rN := fun (W : World) (h : Blk W (w.heap.size + 1) 51 (sC s)) => h.reg N hN
  have rM := fun (W : World) (h : Blk W (w.heap.size + 1) 51 (sC s)) => h.reg M hM
  have RD := Lib.hid rD; have RN := Lib.hid rN; have RM := Lib.hid rM; have HCM := Lib.hid hcm
  clear rD rN rM hcm
  go_enter Tryd.func77, Tryd.ntmps77
  go_wp2_with fail
  obtain ⟨W0, hW0⟩ : ∃ W0, W0 = ((w.alloc (.cells (iC 4 D N M imm.toNat) 58)).alloc (.cells (sC s) 51)).alloc (.cells #[.bool false, .bool false] 128) := ⟨_, rfl⟩
  rw [← hW0] at HCM ⊢
  clear hW0
  have i0 : W0.cell? ⟨w.heap.size, 0, none⟩ = some (.int .i64 4) := HCM.out.b0.cell 0
  have i1 : W0.cell? ⟨w.heap.size, 1, none⟩ = some (.int .i64 D) := HCM.out.b0.cell 1
  have i2 : W0.cell? ⟨w.heap.size, 2, none⟩ = some (.int .i64 N) := HCM.out.b0.cell 2
  have i3 : W0.cell? ⟨w.heap.size, 3, none⟩ = some (.int .i64 M) := HCM.out.b0.cell 3
  have i4 : W0.cell? ⟨w.heap.size, 4, none⟩ = some (.int .i64 (imm.toNat : Int)) := HCM.out.b0.cell 4
  have s0 := RD.out _ HCM.out.b1; have s1 := RN.out _ HCM.out.b1; have s2 := RM.out _ HCM.out.b1
  have s11 : W0.cell? ⟨w.heap.size + 1, 11, none⟩ = some (.bool s.c) := HCM.out.b1.cell 11
  have s12 : W0.cell? ⟨w.heap.size + 1, 12, none⟩ = some (.bool s.v) := HCM.out.b1.cell 12
  go_quiet (fail)
  have HC1 := Lib.hid (HCM.out.drewN nq)
  have j4 : (W0.drewN nq).cell? ⟨w.heap.size, 4, none⟩ = some (.int .i64 (imm.toNat : Int)) := i4
  have j0 : (W0.drewN nq).cell? ⟨w.heap.size, 0, none⟩ = some (.int .i64 4) := i0
  have t11 : (W0.drewN nq).cell? ⟨w.heap.size + 1, 11, none⟩ = some (.bool s.c) := s11
  have t12 : (W0.drewN nq).cell? ⟨w.heap.size + 1, 12, none⟩ = some (.bool s.v) := s12
  have hsz : (W0.drewN nq).heap.size = w.heap.size + 3 := HCM.out.size
  clear i0 i1 i2 i3 i4 s0 s1 s2 s11 s12 HCM RD RN RM
  generalize W0.drewN nq = W1 at *
  go_wp2_with fail
  refine (HA.out _).mono ?_
  rintro e w2 ⟨rfl, hb⟩
  have hk : Blk w2 (w.heap.size + 1 + 1) 128 #[.bool false, .bool false] := by
    refine Blk.below (HC1.out.b2.alloc _) hb (by simp; omega)
  have HB := Lib.hid (show Below w.heap.size w w2 from (HC1.out.low.alloc (by omega) _).trans (hb.mono (by simp; omega)))
  have k0 := hk.cell 0; have k1 := hk.cell 1; have f0 := hk.frozen 0; have f1 := hk.frozen 1
  have HK := Lib.hid hk
  clear hb hk HC1
  go_wp2_with fail
  obtain ⟨hB, hU⟩ := blk2 HK.out (.bool x.c) (.bool x.v)
  have HL := Lib.hid (upd_low HB.out hU (by omega))
  generalize (w2.setCell ⟨w.heap.size + 1 + 1, 0, none⟩ (.bool x.c)).setCell ⟨w.heap.size + 1 + 1, 1, none⟩ (.bool x.v) = WW at *
  have r0 : WW.cell? ⟨w.heap.size + 1 + 1, 0, none⟩ = some (.bool x.c) := hB.cell 0
  have r1 : WW.cell? ⟨w.heap.size + 1 + 1, 1, none⟩ = some (.bool x.v) := hB.cell 1
  refine bodyPost_ret (v := rV x) (by simp [results, Tryd.results77, go_sem, r0, r1]) rfl ⟨rfl, HL.out⟩
set_option maxRecDepth 100000 in
set_option maxHeartbeats 2000000 in
theorem wcmp5 (D N M : Nat) (hD : D < 8) (hN : N < 8) (hM : M < 8) (imm : BitVec 32) (hi : imm.toNat < 256) (s : S) (w : World) : Calls Tryd.prog 77 #[.agg (iC 5 D N M imm.toNat), sv s] w fun e w' => e = .returned (rV (cmp3 5 D N M imm s)) ∧ Below w.heap.size w w' := by
  have e : cmp3 5 D N M imm s = sh3 1 (s.r M) imm.toNat s.c s.v := rfl
  rw [e]
  have hA := fun W => cshift 1 (s.r M) imm.toNat (by omega) s.c s.v W
  generalize sh3 1 (s.r M) imm.toNat s.c s.v = x at hA ⊢
  have HA := Lib.hid hA
  clear hA e
  have hcm := cm_new w 5 D N M imm.toNat s
  have hD2 : (D : Int) < 8 := by omega
  have hN2 : (N : Int) < 8 := by omega
  have hM2 : (M : Int) < 8 := by omega
  have hi2 : (imm.toNat : Int) < 256 := by omega
  have rD := fun (W : World) (h : Blk W (w.heap.size + 1) 51 (sC s)) => h.reg D hD
  have rN := fun (W : World) (h : Blk W (w.heap.size + 1) 51 (sC s)) => h.reg N hN
  have rM := fun (W : World) (h : Blk W (w.heap.size + 1) 51 (sC s)) => h.reg M hM
  have RD := Lib.hid rD; have RN := Lib.hid rN; have RM := Lib.hid rM; have HCM := Lib.hid hcm
  clear rD rN rM hcm
  go_enter Tryd.func77, Tryd.ntmps77
  go_wp2_with fail
  obtain ⟨W0, hW0⟩ : ∃ W0, W0 = ((w.alloc (.cells (iC 5 D N M imm.toNat) 58)).alloc (.cells (sC s) 51)).alloc (.cells #[.bool false, .bool false] 128) := ⟨_, rfl⟩
  rw [← hW0] at HCM ⊢
  clear hW0
  have i0 : W0.cell? ⟨w.heap.size, 0, none⟩ = some (.int .i64 5) := HCM.out.b0.cell 0
  have i1 : W0.cell? ⟨w.heap.size, 1, none⟩ = some (.int .i64 D) := HCM.out.b0.cell 1
  have i2 : W0.cell? ⟨w.heap.size, 2, none⟩ = some (.int .i64 N) := HCM.out.b0.cell 2
  have i3 : W0.cell? ⟨w.heap.size, 3, none⟩ = some (.int .i64 M) := HCM.out.b0.cell 3
  have i4 : W0.cell? ⟨w.heap.size, 4, none⟩ = some (.int .i64 (imm.toNat : Int)) := HCM.out.b0.cell 4
  have s0 := RD.out _ HCM.out.b1; have s1 := RN.out _ HCM.out.b1; have s2 := RM.out _ HCM.out.b1
  have s11 : W0.cell? ⟨w.heap.size + 1, 11, none⟩ = some (.bool s.c) := HCM.out.b1.cell 11
  have s12 : W0.cell? ⟨w.heap.size + 1, 12, none⟩ = some (.bool s.v) := HCM.out.b1.cell 12
  go_quiet (fail)
  have HC1 := Lib.hid (HCM.out.drewN nq)
  have j4 : (W0.drewN nq).cell? ⟨w.heap.size, 4, none⟩ = some (.int .i64 (imm.toNat : Int)) := i4
  have j0 : (W0.drewN nq).cell? ⟨w.heap.size, 0, none⟩ = some (.int .i64 5) := i0
  have t11 : (W0.drewN nq).cell? ⟨w.heap.size + 1, 11, none⟩ = some (.bool s.c) := s11
  have t12 : (W0.drewN nq).cell? ⟨w.heap.size + 1, 12, none⟩ = some (.bool s.v) := s12
  have hsz : (W0.drewN nq).heap.size = w.heap.size + 3 := HCM.out.size
  clear i0 i1 i2 i3 i4 s0 s1 s2 s11 s12 HCM RD RN RM
  generalize W0.drewN nq = W1 at *
  go_wp2_with fail
  refine (HA.out _).mono ?_
  rintro e w2 ⟨rfl, hb⟩
  have hk : Blk w2 (w.heap.size + 1 + 1) 128 #[.bool false, .bool false] := by
    refine Blk.below (HC1.out.b2.alloc _) hb (by simp; omega)
  have HB := Lib.hid (show Below w.heap.size w w2 from (HC1.out.low.alloc (by omega) _).trans (hb.mono (by simp; omega)))
  have k0 := hk.cell 0; have k1 := hk.cell 1; have f0 := hk.frozen 0; have f1 := hk.frozen 1
  have HK := Lib.hid hk
  clear hb hk HC1
  go_wp2_with fail
  obtain ⟨hB, hU⟩ := blk2 HK.out (.bool x.c) (.bool x.v)
  have HL := Lib.hid (upd_low HB.out hU (by omega))
  generalize (w2.setCell ⟨w.heap.size + 1 + 1, 0, none⟩ (.bool x.c)).setCell ⟨w.heap.size + 1 + 1, 1, none⟩ (.bool x.v) = WW at *
  have r0 : WW.cell? ⟨w.heap.size + 1 + 1, 0, none⟩ = some (.bool x.c) := hB.cell 0
  have r1 : WW.cell? ⟨w.heap.size + 1 + 1, 1, none⟩ = some (.bool x.v) := hB.cell 1
  refine bodyPost_ret (v := rV x) (by simp [results, Tryd.results77, go_sem, r0, r1]) rfl ⟨rfl, HL.out⟩
set_option maxRecDepth 100000 in
set_option maxHeartbeats 2000000 in
theorem wcmp6 (D N M : Nat) (hD : D < 8) (hN : N < 8) (hM : M < 8) (imm : BitVec 32) (hi : imm.toNat < 256) (s : S) (w : World) : Calls Tryd.prog 77 #[.agg (iC 6 D N M imm.toNat), sv s] w fun e w' => e = .returned (rV (cmp3 6 D N M imm s)) ∧ Below w.heap.size w w' := by
  have e : cmp3 6 D N M imm s = sh3 2 (s.r M) imm.toNat s.c s.v := rfl
  rw [e]
  have hA := fun W => cshift 2 (s.r M) imm.toNat (by omega) s.c s.v W
  generalize sh3 2 (s.r M) imm.toNat s.c s.v = x at hA ⊢
  have HA := Lib.hid hA
  clear hA e
  have hcm := cm_new w 6 D N M imm.toNat s
  have hD2 : (D : Int) < 8 := by omega
  have hN2 : (N : Int) < 8 := by omega
  have hM2 : (M : Int) < 8 := by omega
  have hi2 : (imm.toNat : Int) < 256 := by omega
  have rD := fun (W : World) (h : Blk W (w.heap.size + 1) 51 (sC s)) => h.reg D hD
  have rN := fun (W : World) (h : Blk W (w.heap.size + 1) 51 (sC s)) => h.reg N hN
  have rM := fun (W : World) (h : Blk W (w.heap.size + 1) 51 (sC s)) => h.reg M hM
  have RD := Lib.hid rD; have RN := Lib.hid rN; have RM := Lib.hid rM; have HCM := Lib.hid hcm
  clear rD rN rM hcm
  go_enter Tryd.func77, Tryd.ntmps77
  go_wp2_with fail
  obtain ⟨W0, hW0⟩ : ∃ W0, W0 = ((w.alloc (.cells (iC 6 D N M imm.toNat) 58)).alloc (.cells (sC s) 51)).alloc (.cells #[.bool false, .bool false] 128) := ⟨_, rfl⟩
  rw [← hW0] at HCM ⊢
  clear hW0
  have i0 : W0.cell? ⟨w.heap.size, 0, none⟩ = some (.int .i64 6) := HCM.out.b0.cell 0
  have i1 : W0.cell? ⟨w.heap.size, 1, none⟩ = some (.int .i64 D) := HCM.out.b0.cell 1
  have i2 : W0.cell? ⟨w.heap.size, 2, none⟩ = some (.int .i64 N) := HCM.out.b0.cell 2
  have i3 : W0.cell? ⟨w.heap.size, 3, none⟩ = some (.int .i64 M) := HCM.out.b0.cell 3
  have i4 : W0.cell? ⟨w.heap.size, 4, none⟩ = some (.int .i64 (imm.toNat : Int)) := HCM.out.b0.cell 4
  have s0 := RD.out _ HCM.out.b1; have s1 := RN.out _ HCM.out.b1; have s2 := RM.out _ HCM.out.b1
  have s11 : W0.cell? ⟨w.heap.size + 1, 11, none⟩ = some (.bool s.c) := HCM.out.b1.cell 11
  have s12 : W0.cell? ⟨w.heap.size + 1, 12, none⟩ = some (.bool s.v) := HCM.out.b1.cell 12
  go_quiet (fail)
  have HC1 := Lib.hid (HCM.out.drewN nq)
  have j4 : (W0.drewN nq).cell? ⟨w.heap.size, 4, none⟩ = some (.int .i64 (imm.toNat : Int)) := i4
  have j0 : (W0.drewN nq).cell? ⟨w.heap.size, 0, none⟩ = some (.int .i64 6) := i0
  have t11 : (W0.drewN nq).cell? ⟨w.heap.size + 1, 11, none⟩ = some (.bool s.c) := s11
  have t12 : (W0.drewN nq).cell? ⟨w.heap.size + 1, 12, none⟩ = some (.bool s.v) := s12
  have hsz : (W0.drewN nq).heap.size = w.heap.size + 3 := HCM.out.size
  clear i0 i1 i2 i3 i4 s0 s1 s2 s11 s12 HCM RD RN RM
  generalize W0.drewN nq = W1 at *
  go_wp2_with fail
  refine (HA.out _).mono ?_
  rintro e w2 ⟨rfl, hb⟩
  have hk : Blk w2 (w.heap.size + 1 + 1) 128 #[.bool false, .bool false] := by
    refine Blk.below (HC1.out.b2.alloc _) hb (by simp; omega)
  have HB := Lib.hid (show Below w.heap.size w w2 from (HC1.out.low.alloc (by omega) _).trans (hb.mono (by simp; omega)))
  have k0 := hk.cell 0; have k1 := hk.cell 1; have f0 := hk.frozen 0; have f1 := hk.frozen 1
  have HK := Lib.hid hk
  clear hb hk HC1
  go_wp2_with fail
  obtain ⟨hB, hU⟩ := blk2 HK.out (.bool x.c) (.bool x.v)
  have HL := Lib.hid (upd_low HB.out hU (by omega))
  generalize (w2.setCell ⟨w.heap.size + 1 + 1, 0, none⟩ (.bool x.c)).setCell ⟨w.heap.size + 1 + 1, 1, none⟩ (.bool x.v) = WW at *
  have r0 : WW.cell? ⟨w.heap.size + 1 + 1, 0, none⟩ = some (.bool x.c) := hB.cell 0
  have r1 : WW.cell? ⟨w.heap.size + 1 + 1, 1, none⟩ = some (.bool x.v) := hB.cell 1
  refine bodyPost_ret (v := rV x) (by simp [results, Tryd.results77, go_sem, r0, r1]) rfl ⟨rfl, HL.out⟩
set_option maxRecDepth 100000 in
set_option maxHeartbeats 2000000 in
theorem wcmp2 (D N M : Nat) (hD : D < 8) (hN : N < 8) (hM : M < 8) (imm : BitVec 32) (hi : imm.toNat < 256) (s : S) (w : World) : Calls Tryd.prog 77 #[.agg (iC 2 D N M imm.toNat), sv s] w fun e w' => e = .returned (rV (cmp3 2 D N M imm s)) ∧ Below w.heap.size w w' := by
  have e : cmp3 2 D N M imm s = sum3 (s.r D) imm false := rfl
  rw [e]
  have hA := fun W => csum (s.r D) imm false W
  generalize sum3 (s.r D) imm false = x at hA ⊢
  have HA := Lib.hid hA
  clear hA e
  have hcm := cm_new w 2 D N M imm.toNat s
  have hD2 : (D : Int) < 8 := by omega
  have hN2 : (N : Int) < 8 := by omega
  have hM2 : (M : Int) < 8 := by omega
  have hi2 : (imm.toNat : Int) < 256 := by omega
  have rD := fun (W : World) (h : Blk W (w.heap.size + 1) 51 (sC s)) => h.reg D hD
  have rN := fun (W : World) (h : Blk W (w.heap.size + 1) 51 (sC s)) => h.reg N hN
  have rM := fun (W : World) (h : Blk W (w.heap.size + 1) 51 (sC s)) => h.reg M hM
  have RD := Lib.hid rD; have RN := Lib.hid rN; have RM := Lib.hid rM; have HCM := Lib.hid hcm
  clear rD rN rM hcm
  go_enter Tryd.func77, Tryd.ntmps77
  go_wp2_with fail
  obtain ⟨W0, hW0⟩ : ∃ W0, W0 = ((w.alloc (.cells (iC 2 D N M imm.toNat) 58)).alloc (.cells (sC s) 51)).alloc (.cells #[.bool false, .bool false] 128) := ⟨_, rfl⟩
  rw [← hW0] at HCM ⊢
  clear hW0
  have i0 : W0.cell? ⟨w.heap.size, 0, none⟩ = some (.int .i64 2) := HCM.out.b0.cell 0
  have i1 : W0.cell? ⟨w.heap.size, 1, none⟩ = some (.int .i64 D) := HCM.out.b0.cell 1
  have i2 : W0.cell? ⟨w.heap.size, 2, none⟩ = some (.int .i64 N) := HCM.out.b0.cell 2
  have i3 : W0.cell? ⟨w.heap.size, 3, none⟩ = some (.int .i64 M) := HCM.out.b0.cell 3
  have i4 : W0.cell? ⟨w.heap.size, 4, none⟩ = some (.int .i64 (imm.toNat : Int)) := HCM.out.b0.cell 4
  have s0 := RD.out _ HCM.out.b1; have s1 := RN.out _ HCM.out.b1; have s2 := RM.out _ HCM.out.b1
  have s11 : W0.cell? ⟨w.heap.size + 1, 11, none⟩ = some (.bool s.c) := HCM.out.b1.cell 11
  have s12 : W0.cell? ⟨w.heap.size + 1, 12, none⟩ = some (.bool s.v) := HCM.out.b1.cell 12
  go_quiet (fail)
  have HC1 := Lib.hid (HCM.out.drewN nq)
  have j4 : (W0.drewN nq).cell? ⟨w.heap.size, 4, none⟩ = some (.int .i64 (imm.toNat : Int)) := i4
  have j0 : (W0.drewN nq).cell? ⟨w.heap.size, 0, none⟩ = some (.int .i64 2) := i0
  have t11 : (W0.drewN nq).cell? ⟨w.heap.size + 1, 11, none⟩ = some (.bool s.c) := s11
  have t12 : (W0.drewN nq).cell? ⟨w.heap.size + 1, 12, none⟩ = some (.bool s.v) := s12
  have hsz : (W0.drewN nq).heap.size = w.heap.size + 3 := HCM.out.size
  clear i0 i1 i2 i3 i4 s0 s1 s2 s11 s12 HCM RD RN RM
  generalize W0.drewN nq = W1 at *
  go_wp2_with fail
  refine (HA.out _).mono ?_
  rintro e w2 ⟨rfl, hb⟩
  have hk : Blk w2 (w.heap.size + 1 + 1) 128 #[.bool false, .bool false] := by
    refine Blk.below (HC1.out.b2.alloc _) hb (by simp; omega)
  have HB := Lib.hid (show Below w.heap.size w w2 from (HC1.out.low.alloc (by omega) _).trans (hb.mono (by simp; omega)))
  have k0 := hk.cell 0; have k1 := hk.cell 1; have f0 := hk.frozen 0; have f1 := hk.frozen 1
  have HK := Lib.hid hk
  clear hb hk HC1
  go_wp2_with fail
  obtain ⟨hB, hU⟩ := blk2 HK.out (.bool x.c) (.bool x.v)
  have HL := Lib.hid (upd_low HB.out hU (by omega))
  generalize (w2.setCell ⟨w.heap.size + 1 + 1, 0, none⟩ (.bool x.c)).setCell ⟨w.heap.size + 1 + 1, 1, none⟩ (.bool x.v) = WW at *
  have r0 : WW.cell? ⟨w.heap.size + 1 + 1, 0, none⟩ = some (.bool x.c) := hB.cell 0
  have r1 : WW.cell? ⟨w.heap.size + 1 + 1, 1, none⟩ = some (.bool x.v) := hB.cell 1
  refine bodyPost_ret (v := rV x) (by simp [results, Tryd.results77, go_sem, r0, r1]) rfl ⟨rfl, HL.out⟩
set_option maxRecDepth 100000 in
set_option maxHeartbeats 2000000 in
theorem wcmp1 (D N M : Nat) (hD : D < 8) (hN : N < 8) (hM : M < 8) (imm : BitVec 32) (hi : imm.toNat < 256) (s : S) (w : World) : Calls Tryd.prog 77 #[.agg (iC 1 D N M imm.toNat), sv s] w fun e w' => e = .returned (rV (cmp3 1 D N M imm s)) ∧ Below w.heap.size w w' := by
  have e : cmp3 1 D N M imm s = sum3 (s.r D) (~~~imm) true := rfl
  rw [e]
  have hA := fun W => cless (s.r D) imm W
  generalize sum3 (s.r D) (~~~imm) true = x at hA ⊢
  have HA := Lib.hid hA
  clear hA e
  have hcm := cm_new w 1 D N M imm.toNat s
  have hD2 : (D : Int) < 8 := by omega
  have hN2 : (N : Int) < 8 := by omega
  have hM2 : (M : Int) < 8 := by omega
  have hi2 : (imm.toNat : Int) < 256 := by omega
  have rD := fun (W : World) (h : Blk W (w.heap.size + 1) 51 (sC s)) => h.reg D hD
  have rN := fun (W : World) (h : Blk W (w.heap.size + 1) 51 (sC s)) => h.reg N hN
  have rM := fun (W : World) (h : Blk W (w.heap.size + 1) 51 (sC s)) => h.reg M hM
  have RD := Lib.hid rD; have RN := Lib.hid rN; have RM := Lib.hid rM; have HCM := Lib.hid hcm
  clear rD rN rM hcm
  go_enter Tryd.func77, Tryd.ntmps77
  go_wp2_with fail
  obtain ⟨W0, hW0⟩ : ∃ W0, W0 = ((w.alloc (.cells (iC 1 D N M imm.toNat) 58)).alloc (.cells (sC s) 51)).alloc (.cells #[.bool false, .bool false] 128) := ⟨_, rfl⟩
  rw [← hW0] at HCM ⊢
  clear hW0
  have i0 : W0.cell? ⟨w.heap.size, 0, none⟩ = some (.int .i64 1) := HCM.out.b0.cell 0
  have i1 : W0.cell? ⟨w.heap.size, 1, none⟩ = some (.int .i64 D) := HCM.out.b0.cell 1
  have i2 : W0.cell? ⟨w.heap.size, 2, none⟩ = some (.int .i64 N) := HCM.out.b0.cell 2
  have i3 : W0.cell? ⟨w.heap.size, 3, none⟩ = some (.int .i64 M) := HCM.out.b0.cell 3
  have i4 : W0.cell? ⟨w.heap.size, 4, none⟩ = some (.int .i64 (imm.toNat : Int)) := HCM.out.b0.cell 4
  have s0 := RD.out _ HCM.out.b1; have s1 := RN.out _ HCM.out.b1; have s2 := RM.out _ HCM.out.b1
  have s11 : W0.cell? ⟨w.heap.size + 1, 11, none⟩ = some (.bool s.c) := HCM.out.b1.cell 11
  have s12 : W0.cell? ⟨w.heap.size + 1, 12, none⟩ = some (.bool s.v) := HCM.out.b1.cell 12
  go_quiet (fail)
  have HC1 := Lib.hid (HCM.out.drewN nq)
  have j4 : (W0.drewN nq).cell? ⟨w.heap.size, 4, none⟩ = some (.int .i64 (imm.toNat : Int)) := i4
  have j0 : (W0.drewN nq).cell? ⟨w.heap.size, 0, none⟩ = some (.int .i64 1) := i0
  have t11 : (W0.drewN nq).cell? ⟨w.heap.size + 1, 11, none⟩ = some (.bool s.c) := s11
  have t12 : (W0.drewN nq).cell? ⟨w.heap.size + 1, 12, none⟩ = some (.bool s.v) := s12
  have hsz : (W0.drewN nq).heap.size = w.heap.size + 3 := HCM.out.size
  clear i0 i1 i2 i3 i4 s0 s1 s2 s11 s12 HCM RD RN RM
  generalize W0.drewN nq = W1 at *
  go_wp2_with fail
  refine (HA.out _).mono ?_
  rintro e w2 ⟨rfl, hb⟩
  have hk : Blk w2 (w.heap.size + 1 + 1) 128 #[.bool false, .bool false] := by
    refine Blk.below (HC1.out.b2.alloc _) hb (by simp; omega)
  have HB := Lib.hid (show Below w.heap.size w w2 from (HC1.out.low.alloc (by omega) _).trans (hb.mono (by simp; omega)))
  have k0 := hk.cell 0; have k1 := hk.cell 1; have f0 := hk.frozen 0; have f1 := hk.frozen 1
  have HK := Lib.hid hk
  clear hb hk HC1
  go_wp2_with fail
  obtain ⟨hB, hU⟩ := blk2 HK.out (.bool x.c) (.bool x.v)
  have HL := Lib.hid (upd_low HB.out hU (by omega))
  generalize (w2.setCell ⟨w.heap.size + 1 + 1, 0, none⟩ (.bool x.c)).setCell ⟨w.heap.size + 1 + 1, 1, none⟩ (.bool x.v) = WW at *
  have r0 : WW.cell? ⟨w.heap.size + 1 + 1, 0, none⟩ = some (.bool x.c) := hB.cell 0
  have r1 : WW.cell? ⟨w.heap.size + 1 + 1, 1, none⟩ = some (.bool x.v) := hB.cell 1
  refine bodyPost_ret (v := rV x) (by simp [results, Tryd.results77, go_sem, r0, r1]) rfl ⟨rfl, HL.out⟩
set_option maxRecDepth 100000 in
set_option maxHeartbeats 2000000 in
theorem wcmp3 (D N M : Nat) (hD : D < 8) (hN : N < 8) (hM : M < 8) (imm : BitVec 32) (hi : imm.toNat < 256) (s : S) (w : World) : Calls Tryd.prog 77 #[.agg (iC 3 D N M imm.toNat), sv s] w fun e w' => e = .returned (rV (cmp3 3 D N M imm s)) ∧ Below w.heap.size w w' := by
  have e : cmp3 3 D N M imm s = sum3 (s.r D) (~~~imm) true := rfl
  rw [e]
  have hA := fun W => cless (s.r D) imm W
  generalize sum3 (s.r D) (~~~imm) true = x at hA ⊢
  have HA := Lib.hid hA
  clear hA e
  have hcm := cm_new w 3 D N M imm.toNat s
  have hD2 : (D : Int) < 8 := by omega
  have hN2 : (N : Int) < 8 := by omega
  have hM2 : (M : Int) < 8 := by omega
  have hi2 : (imm.toNat : Int) < 256 := by omega
  have rD := fun (W : World) (h : Blk W (w.heap.size + 1) 51 (sC s)) => h.reg D hD
  have rN := fun (W : World) (h : Blk W (w.heap.size + 1) 51 (sC s)) => h.reg N hN
  have rM := fun (W : World) (h : Blk W (w.heap.size + 1) 51 (sC s)) => h.reg M hM
  have RD := Lib.hid rD; have RN := Lib.hid rN; have RM := Lib.hid rM; have HCM := Lib.hid hcm
  clear rD rN rM hcm
  go_enter Tryd.func77, Tryd.ntmps77
  go_wp2_with fail
  obtain ⟨W0, hW0⟩ : ∃ W0, W0 = ((w.alloc (.cells (iC 3 D N M imm.toNat) 58)).alloc (.cells (sC s) 51)).alloc (.cells #[.bool false, .bool false] 128) := ⟨_, rfl⟩
  rw [← hW0] at HCM ⊢
  clear hW0
  have i0 : W0.cell? ⟨w.heap.size, 0, none⟩ = some (.int .i64 3) := HCM.out.b0.cell 0
  have i1 : W0.cell? ⟨w.heap.size, 1, none⟩ = some (.int .i64 D) := HCM.out.b0.cell 1
  have i2 : W0.cell? ⟨w.heap.size, 2, none⟩ = some (.int .i64 N) := HCM.out.b0.cell 2
  have i3 : W0.cell? ⟨w.heap.size, 3, none⟩ = some (.int .i64 M) := HCM.out.b0.cell 3
  have i4 : W0.cell? ⟨w.heap.size, 4, none⟩ = some (.int .i64 (imm.toNat : Int)) := HCM.out.b0.cell 4
  have s0 := RD.out _ HCM.out.b1; have s1 := RN.out _ HCM.out.b1; have s2 := RM.out _ HCM.out.b1
  have s11 : W0.cell? ⟨w.heap.size + 1, 11, none⟩ = some (.bool s.c) := HCM.out.b1.cell 11
  have s12 : W0.cell? ⟨w.heap.size + 1, 12, none⟩ = some (.bool s.v) := HCM.out.b1.cell 12
  go_quiet (fail)
  have HC1 := Lib.hid (HCM.out.drewN nq)
  have j4 : (W0.drewN nq).cell? ⟨w.heap.size, 4, none⟩ = some (.int .i64 (imm.toNat : Int)) := i4
  have j0 : (W0.drewN nq).cell? ⟨w.heap.size, 0, none⟩ = some (.int .i64 3) := i0
  have t11 : (W0.drewN nq).cell? ⟨w.heap.size + 1, 11, none⟩ = some (.bool s.c) := s11
  have t12 : (W0.drewN nq).cell? ⟨w.heap.size + 1, 12, none⟩ = some (.bool s.v) := s12
  have hsz : (W0.drewN nq).heap.size = w.heap.size + 3 := HCM.out.size
  clear i0 i1 i2 i3 i4 s0 s1 s2 s11 s12 HCM RD RN RM
  generalize W0.drewN nq = W1 at *
  go_wp2_with fail
  refine (HA.out _).mono ?_
  rintro e w2 ⟨rfl, hb⟩
  have hk : Blk w2 (w.heap.size + 1 + 1) 128 #[.bool false, .bool false] := by
    refine Blk.below (HC1.out.b2.alloc _) hb (by simp; omega)
  have HB := Lib.hid (show Below w.heap.size w w2 from (HC1.out.low.alloc (by omega) _).trans (hb.mono (by simp; omega)))
  have k0 := hk.cell 0; have k1 := hk.cell 1; have f0 := hk.frozen 0; have f1 := hk.frozen 1
  have HK := Lib.hid hk
  clear hb hk HC1
  go_wp2_with fail
  obtain ⟨hB, hU⟩ := blk2 HK.out (.bool x.c) (.bool x.v)
  have HL := Lib.hid (upd_low HB.out hU (by omega))
  generalize (w2.setCell ⟨w.heap.size + 1 + 1, 0, none⟩ (.bool x.c)).setCell ⟨w.heap.size + 1 + 1, 1, none⟩ (.bool x.v) = WW at *
  have r0 : WW.cell? ⟨w.heap.size + 1 + 1, 0, none⟩ = some (.bool x.c) := hB.cell 0
  have r1 : WW.cell? ⟨w.heap.size + 1 + 1, 1, none⟩ = some (.bool x.v) := hB.cell 1
  refine bodyPost_ret (v := rV x) (by simp [results, Tryd.results77, go_sem, r0, r1]) rfl ⟨rfl, HL.out⟩
set_option maxRecDepth 100000 in
set_option maxHeartbeats 2000000 in
theorem wcmp7 (D N M : Nat) (hD : D < 8) (hN : N < 8) (hM : M < 8) (imm : BitVec 32) (hi : imm.toNat < 256) (s : S) (w : World) : Calls Tryd.prog 77 #[.agg (iC 7 D N M imm.toNat), sv s] w fun e w' => e = .returned (rV (cmp3 7 D N M imm s)) ∧ Below w.heap.size w w' := by
  have e : cmp3 7 D N M imm s = sum3 (s.r N) (s.r M) false := rfl
  rw [e]
  have hA := fun W => csum (s.r N) (s.r M) false W
  generalize sum3 (s.r N) (s.r M) false = x at hA ⊢
  have HA := Lib.hid hA
  clear hA e
  have hcm := cm_new w 7 D N M imm.toNat s
  have hD2 : (D : Int) < 8 := by omega
  have hN2 : (N : Int) < 8 := by omega
  have hM2 : (M : Int) < 8 := by omega
  have hi2 : (imm.toNat : Int) < 256 := by omega
  have rD := fun (W : World) (h : Blk W (w.heap.size + 1) 51 (sC s)) => h.reg D hD
  have rN := fun (W : World) (h : Blk W (w.heap.size + 1) 51 (sC s)) => h.reg N hN
  have rM := fun (W : World) (h : Blk W (w.heap.size + 1) 51 (sC s)) => h.reg M hM
  have RD := Lib.hid rD; have RN := Lib.hid rN; have RM := Lib.hid rM; have HCM := Lib.hid hcm
  clear rD rN rM hcm
  go_enter Tryd.func77, Tryd.ntmps77
  go_wp2_with fail
  obtain ⟨W0, hW0⟩ : ∃ W0, W0 = ((w.alloc (.cells (iC 7 D N M imm.toNat) 58)).alloc (.cells (sC s) 51)).alloc (.cells #[.bool false, .bool false] 128) := ⟨_, rfl⟩
  rw [← hW0] at HCM ⊢
  clear hW0
  have i0 : W0.cell? ⟨w.heap.size, 0, none⟩ = some (.int .i64 7) := HCM.out.b0.cell 0
  have i1 : W0.cell? ⟨w.heap.size, 1, none⟩ = some (.int .i64 D) := HCM.out.b0.cell 1
  have i2 : W0.cell? ⟨w.heap.size, 2, none⟩ = some (.int .i64 N) := HCM.out.b0.cell 2
  have i3 : W0.cell? ⟨w.heap.size, 3, none⟩ = some (.int .i64 M) := HCM.out.b0.cell 3
  have i4 : W0.cell? ⟨w.heap.size, 4, none⟩ = some (.int .i64 (imm.toNat : Int)) := HCM.out.b0.cell 4
  have s0 := RD.out _ HCM.out.b1; have s1 := RN.out _ HCM.out.b1; have s2 := RM.out _ HCM.out.b1
  have s11 : W0.cell? ⟨w.heap.size + 1, 11, none⟩ = some (.bool s.c) := HCM.out.b1.cell 11
  have s12 : W0.cell? ⟨w.heap.size + 1, 12, none⟩ = some (.bool s.v) := HCM.out.b1.cell 12
  go_quiet (fail)
  have HC1 := Lib.hid (HCM.out.drewN nq)
  have j4 : (W0.drewN nq).cell? ⟨w.heap.size, 4, none⟩ = some (.int .i64 (imm.toNat : Int)) := i4
  have j0 : (W0.drewN nq).cell? ⟨w.heap.size, 0, none⟩ = some (.int .i64 7) := i0
  have t11 : (W0.drewN nq).cell? ⟨w.heap.size + 1, 11, none⟩ = some (.bool s.c) := s11
  have t12 : (W0.drewN nq).cell? ⟨w.heap.size + 1, 12, none⟩ = some (.bool s.v) := s12
  have hsz : (W0.drewN nq).heap.size = w.heap.size + 3 := HCM.out.size
  clear i0 i1 i2 i3 i4 s0 s1 s2 s11 s12 HCM RD RN RM
  generalize W0.drewN nq = W1 at *
  go_wp2_with fail
  refine (HA.out _).mono ?_
  rintro e w2 ⟨rfl, hb⟩
  have hk : Blk w2 (w.heap.size + 1 + 1) 128 #[.bool false, .bool false] := by
    refine Blk.below (HC1.out.b2.alloc _) hb (by simp; omega)
  have HB := Lib.hid (show Below w.heap.size w w2 from (HC1.out.low.alloc (by omega) _).trans (hb.mono (by simp; omega)))
  have k0 := hk.cell 0; have k1 := hk.cell 1; have f0 := hk.frozen 0; have f1 := hk.frozen 1
  have HK := Lib.hid hk
  clear hb hk HC1
  go_wp2_with fail
  obtain ⟨hB, hU⟩ := blk2 HK.out (.bool x.c) (.bool x.v)
  have HL := Lib.hid (upd_low HB.out hU (by omega))
  generalize (w2.setCell ⟨w.heap.size + 1 + 1, 0, none⟩ (.bool x.c)).setCell ⟨w.heap.size + 1 + 1, 1, none⟩ (.bool x.v) = WW at *
  have r0 : WW.cell? ⟨w.heap.size + 1 + 1, 0, none⟩ = some (.bool x.c) := hB.cell 0
  have r1 : WW.cell? ⟨w.heap.size + 1 + 1, 1, none⟩ = some (.bool x.v) := hB.cell 1
  refine bodyPost_ret (v := rV x) (by simp [results, Tryd.results77, go_sem, r0, r1]) rfl ⟨rfl, HL.out⟩
set_option maxRecDepth 100000 in
set_option maxHeartbeats 2000000 in
theorem wcmp8 (D N M : Nat) (hD : D < 8) (hN : N < 8) (hM : M < 8) (imm : BitVec 32) (hi : imm.toNat < 256) (s : S) (w : World) : Calls Tryd.prog 77 #[.agg (iC 8 D N M imm.toNat), sv s] w fun e w' => e = .returned (rV (cmp3 8 D N M imm s)) ∧ Below w.heap.size w w' := by
  have e : cmp3 8 D N M imm s = sum3 (s.r N) (~~~(s.r M)) true := rfl
  rw [e]
  have hA := fun W => cless (s.r N) (s.r M) W
  generalize sum3 (s.r N) (~~~(s.r M)) true = x at hA ⊢
  have HA := Lib.hid hA
  clear hA e
  have hcm := cm_new w 8 D N M imm.toNat s
  have hD2 : (D : Int) < 8 := by omega
  have hN2 : (N : Int) < 8 := by omega
  have hM2 : (M : Int) < 8 := by omega
  have hi2 : (imm.toNat : Int) < 256 := by omega
  have rD := fun (W : World) (h : Blk W (w.heap.size + 1) 51 (sC s)) => h.reg D hD
  have rN := fun (W : World) (h : Blk W (w.heap.size + 1) 51 (sC s)) => h.reg N hN
  have rM := fun (W : World) (h : Blk W (w.heap.size + 1) 51 (sC s)) => h.reg M hM
  have RD := Lib.hid rD; have RN := Lib.hid rN; have RM := Lib.hid rM; have HCM := Lib.hid hcm
  clear rD rN rM hcm
  go_enter Tryd.func77, Tryd.ntmps77
  go_wp2_with fail
  obtain ⟨W0, hW0⟩ : ∃ W0, W0 = ((w.alloc (.cells (iC 8 D N M imm.toNat) 58)).alloc (.cells (sC s) 51)).alloc (.cells #[.bool false, .bool false] 128) := ⟨_, rfl⟩
  rw [← hW0] at HCM ⊢
  clear hW0
  have i0 : W0.cell? ⟨w.heap.size, 0, none⟩ = some (.int .i64 8) := HCM.out.b0.cell 0
  have i1 : W0.cell? ⟨w.heap.size, 1, none⟩ = some (.int .i64 D) := HCM.out.b0.cell 1
  have i2 : W0.cell? ⟨w.heap.size, 2, none⟩ = some (.int .i64 N) := HCM.out.b0.cell 2
  have i3 : W0.cell? ⟨w.heap.size, 3, none⟩ = some (.int .i64 M) := HCM.out.b0.cell 3
  have i4 : W0.cell? ⟨w.heap.size, 4, none⟩ = some (.int .i64 (imm.toNat : Int)) := HCM.out.b0.cell 4
  have s0 := RD.out _ HCM.out.b1; have s1 := RN.out _ HCM.out.b1; have s2 := RM.out _ HCM.out.b1
  have s11 : W0.cell? ⟨w.heap.size + 1, 11, none⟩ = some (.bool s.c) := HCM.out.b1.cell 11
  have s12 : W0.cell? ⟨w.heap.size + 1, 12, none⟩ = some (.bool s.v) := HCM.out.b1.cell 12
  go_quiet (fail)
  have HC1 := Lib.hid (HCM.out.drewN nq)
  have j4 : (W0.drewN nq).cell? ⟨w.heap.size, 4, none⟩ = some (.int .i64 (imm.toNat : Int)) := i4
  have j0 : (W0.drewN nq).cell? ⟨w.heap.size, 0, none⟩ = some (.int .i64 8) := i0
  have t11 : (W0.drewN nq).cell? ⟨w.heap.size + 1, 11, none⟩ = some (.bool s.c) := s11
  have t12 : (W0.drewN nq).cell? ⟨w.heap.size + 1, 12, none⟩ = some (.bool s.v) := s12
  have hsz : (W0.drewN nq).heap.size = w.heap.size + 3 := HCM.out.size
  clear i0 i1 i2 i3 i4 s0 s1 s2 s11 s12 HCM RD RN RM
  generalize W0.drewN nq = W1 at *
  go_wp2_with fail
  refine (HA.out _).mono ?_
  rintro e w2 ⟨rfl, hb⟩
  have hk : Blk w2 (w.heap.size + 1 + 1) 128 #[.bool false, .bool false] := by
    refine Blk.below (HC1.out.b2.alloc _) hb (by simp; omega)
  have HB := Lib.hid (show Below w.heap.size w w2 from (HC1.out.low.alloc (by omega) _).trans (hb.mono (by simp; omega)))
  have k0 := hk.cell 0; have k1 := hk.cell 1; have f0 := hk.frozen 0; have f1 := hk.frozen 1
  have HK := Lib.hid hk
  clear hb hk HC1
  go_wp2_with fail
  obtain ⟨hB, hU⟩ := blk2 HK.out (.bool x.c) (.bool x.v)
  have HL := Lib.hid (upd_low HB.out hU (by omega))
  generalize (w2.setCell ⟨w.heap.size + 1 + 1, 0, none⟩ (.bool x.c)).setCell ⟨w.heap.size + 1 + 1, 1, none⟩ (.bool x.v) = WW at *
  have r0 : WW.cell? ⟨w.heap.size + 1 + 1, 0, none⟩ = some (.bool x.c) := hB.cell 0
  have r1 : WW.cell? ⟨w.heap.size + 1 + 1, 1, none⟩ = some (.bool x.v) := hB.cell 1
  refine bodyPost_ret (v := rV x) (by simp [results, Tryd.results77, go_sem, r0, r1]) rfl ⟨rfl, HL.out⟩
set_option maxRecDepth 100000 in
set_option maxHeartbeats 2000000 in
theorem wcmp9 (D N M : Nat) (hD : D < 8) (hN : N < 8) (hM : M < 8) (imm : BitVec 32) (hi : imm.toNat < 256) (s : S) (w : World) : Calls Tryd.prog 77 #[.agg (iC 9 D N M imm.toNat), sv s] w fun e w' => e = .returned (rV (cmp3 9 D N M imm s)) ∧ Below w.heap.size w w' := by
  have e : cmp3 9 D N M imm s = sum3 (s.r N) imm false := rfl
  rw [e]
  have hA := fun W => csum (s.r N) imm false W
  generalize sum3 (s.r N) imm false = x at hA ⊢
  have HA := Lib.hid hA
  clear hA e
  have hcm := cm_new w 9 D N M imm.toNat s
  have hD2 : (D : Int) < 8 := by omega
  have hN2 : (N : Int) < 8 := by omega
  have hM2 : (M : Int) < 8 := by omega
  have hi2 : (imm.toNat : Int) < 256 := by omega
  have rD := fun (W : World) (h : Blk W (w.heap.size + 1) 51 (sC s)) => h.reg D hD
  have rN := fun (W : World) (h : Blk W (w.heap.size + 1) 51 (sC s)) => h.reg N hN
  have rM := fun (W : World) (h : Blk W (w.heap.size + 1) 51 (sC s)) => h.reg M hM
  have RD := Lib.hid rD; have RN := Lib.hid rN; have RM := Lib.hid rM; have HCM := Lib.hid hcm
  clear rD rN rM hcm
  go_enter Tryd.func77, Tryd.ntmps77
  go_wp2_with fail
  obtain ⟨W0, hW0⟩ : ∃ W0, W0 = ((w.alloc (.cells (iC 9 D N M imm.toNat) 58)).alloc (.cells (sC s) 51)).alloc (.cells #[.bool false, .bool false] 128) := ⟨_, rfl⟩
  rw [← hW0] at HCM ⊢
  clear hW0
  have i0 : W0.cell? ⟨w.heap.size, 0, none⟩ = some (.int .i64 9) := HCM.out.b0.cell 0
  have i1 : W0.cell? ⟨w.heap.size, 1, none⟩ = some (.int .i64 D) := HCM.out.b0.cell 1
  have i2 : W0.cell? ⟨w.heap.size, 2, none⟩ = some (.int .i64 N) := HCM.out.b0.cell 2
  have i3 : W0.cell? ⟨w.heap.size, 3, none⟩ = some (.int .i64 M) := HCM.out.b0.cell 3
  have i4 : W0.cell? ⟨w.heap.size, 4, none⟩ = some (.int .i64 (imm.toNat : Int)) := HCM.out.b0.cell 4
  have s0 := RD.out _ HCM.out.b1; have s1 := RN.out _ HCM.out.b1; have s2 := RM.out _ HCM.out.b1
  have s11 : W0.cell? ⟨w.heap.size + 1, 11, none⟩ = some (.bool s.c) := HCM.out.b1.cell 11
  have s12 : W0.cell? ⟨w.heap.size + 1, 12, none⟩ = some (.bool s.v) := HCM.out.b1.cell 12
  go_quiet (fail)
  have HC1 := Lib.hid (HCM.out.drewN nq)
  have j4 : (W0.drewN nq).cell? ⟨w.heap.size, 4, none⟩ = some (.int .i64 (imm.toNat : Int)) := i4
  have j0 : (W0.drewN nq).cell? ⟨w.heap.size, 0, none⟩ = some (.int .i64 9) := i0
  have t11 : (W0.drewN nq).cell? ⟨w.heap.size + 1, 11, none⟩ = some (.bool s.c) := s11
  have t12 : (W0.drewN nq).cell? ⟨w.heap.size + 1, 12, none⟩ = some (.bool s.v) := s12
  have hsz : (W0.drewN nq).heap.size = w.heap.size + 3 := HCM.out.size
  clear i0 i1 i2 i3 i4 s0 s1 s2 s11 s12 HCM RD RN RM
  generalize W0.drewN nq = W1 at *
  go_wp2_with fail
  refine (HA.out _).mono ?_
  rintro e w2 ⟨rfl, hb⟩
  have hk : Blk w2 (w.heap.size + 1 + 1) 128 #[.bool false, .bool false] := by
    refine Blk.below (HC1.out.b2.alloc _) hb (by simp; omega)
  have HB := Lib.hid (show Below w.heap.size w w2 from (HC1.out.low.alloc (by omega) _).trans (hb.mono (by simp; omega)))
  have k0 := hk.cell 0; have k1 := hk.cell 1; have f0 := hk.frozen 0; have f1 := hk.frozen 1
  have HK := Lib.hid hk
  clear hb hk HC1
  go_wp2_with fail
  obtain ⟨hB, hU⟩ := blk2 HK.out (.bool x.c) (.bool x.v)
  have HL := Lib.hid (upd_low HB.out hU (by omega))
  generalize (w2.setCell ⟨w.heap.size + 1 + 1, 0, none⟩ (.bool x.c)).setCell ⟨w.heap.size + 1 + 1, 1, none⟩ (.bool x.v) = WW at *
  have r0 : WW.cell? ⟨w.heap.size + 1 + 1, 0, none⟩ = some (.bool x.c) := hB.cell 0
  have r1 : WW.cell? ⟨w.heap.size + 1 + 1, 1, none⟩ = some (.bool x.v) := hB.cell 1
  refine bodyPost_ret (v := rV x) (by simp [results, Tryd.results77, go_sem, r0, r1]) rfl ⟨rfl, HL.out⟩
set_option maxRecDepth 100000 in
set_option maxHeartbeats 2000000 in
theorem wcmp10 (D N M : Nat) (hD : D < 8) (hN : N < 8) (hM : M < 8) (imm : BitVec 32) (hi : imm.toNat < 256) (s : S) (w : World) : Calls Tryd.prog 77 #[.agg (iC 10 D N M imm.toNat), sv s] w fun e w' => e = .returned (rV (cmp3 10 D N M imm s)) ∧ Below w.heap.size w w' := by
  have e : cmp3 10 D N M imm s = sum3 (s.r N) (~~~imm) true := rfl
  rw [e]
  have hA := fun W => cless (s.r N) imm W
  generalize sum3 (s.r N) (~~~imm) true = x at hA ⊢
  have HA := Lib.hid hA
  clear hA e
  have hcm := cm_new w 10 D N M imm.toNat s
  have hD2 : (D : Int) < 8 := by omega
  have hN2 : (N : Int) < 8 := by omega
  have hM2 : (M : Int) < 8 := by omega
  have hi2 : (imm.toNat : Int) < 256 := by omega
  have rD := fun (W : World) (h : Blk W (w.heap.size + 1) 51 (sC s)) => h.reg D hD
  have rN := fun (W : World) (h : Blk W (w.heap.size + 1) 51 (sC s)) => h.reg N hN
  have rM := fun (W : World) (h : Blk W (w.heap.size + 1) 51 (sC s)) => h.reg M hM
  have RD := Lib.hid rD; have RN := Lib.hid rN; have RM := Lib.hid rM; have HCM := Lib.hid hcm
  clear rD rN rM hcm
  go_enter Tryd.func77, Tryd.ntmps77
  go_wp2_with fail
  obtain ⟨W0, hW0⟩ : ∃ W0, W0 = ((w.alloc (.cells (iC 10 D N M imm.toNat) 58)).alloc (.cells (sC s) 51)).alloc (.cells #[.bool false, .bool false] 128) := ⟨_, rfl⟩
  rw [← hW0] at HCM ⊢
  clear hW0
  have i0 : W0.cell? ⟨w.heap.size, 0, none⟩ = some (.int .i64 10) := HCM.out.b0.cell 0
  have i1 : W0.cell? ⟨w.heap.size, 1, none⟩ = some (.int .i64 D) := HCM.out.b0.cell 1
  have i2 : W0.cell? ⟨w.heap.size, 2, none⟩ = some (.int .i64 N) := HCM.out.b0.cell 2
  have i3 : W0.cell? ⟨w.heap.size, 3, none⟩ = some (.int .i64 M) := HCM.out.b0.cell 3
  have i4 : W0.cell? ⟨w.heap.size, 4, none⟩ = some (.int .i64 (imm.toNat : Int)) := HCM.out.b0.cell 4
  have s0 := RD.out _ HCM.out.b1; have s1 := RN.out _ HCM.out.b1; have s2 := RM.out _ HCM.out.b1
  have s11 : W0.cell? ⟨w.heap.size + 1, 11, none⟩ = some (.bool s.c) := HCM.out.b1.cell 11
  have s12 : W0.cell? ⟨w.heap.size + 1, 12, none⟩ = some (.bool s.v) := HCM.out.b1.cell 12
  go_quiet (fail)
  have HC1 := Lib.hid (HCM.out.drewN nq)
  have j4 : (W0.drewN nq).cell? ⟨w.heap.size, 4, none⟩ = some (.int .i64 (imm.toNat : Int)) := i4
  have j0 : (W0.drewN nq).cell? ⟨w.heap.size, 0, none⟩ = some (.int .i64 10) := i0
  have t11 : (W0.drewN nq).cell? ⟨w.heap.size + 1, 11, none⟩ = some (.bool s.c) := s11
  have t12 : (W0.drewN nq).cell? ⟨w.heap.size + 1, 12, none⟩ = some (.bool s.v) := s12
  have hsz : (W0.drewN nq).heap.size = w.heap.size + 3 := HCM.out.size
  clear i0 i1 i2 i3 i4 s0 s1 s2 s11 s12 HCM RD RN RM
  generalize W0.drewN nq = W1 at *
  go_wp2_with fail
  refine (HA.out _).mono ?_
  rintro e w2 ⟨rfl, hb⟩
  have hk : Blk w2 (w.heap.size + 1 + 1) 128 #[.bool false, .bool false] := by
    refine Blk.below (HC1.out.b2.alloc _) hb (by simp; omega)
  have HB := Lib.hid (show Below w.heap.size w w2 from (HC1.out.low.alloc (by omega) _).trans (hb.mono (by simp; omega)))
  have k0 := hk.cell 0; have k1 := hk.cell 1; have f0 := hk.frozen 0; have f1 := hk.frozen 1
  have HK := Lib.hid hk
  clear hb hk HC1
  go_wp2_with fail
  obtain ⟨hB, hU⟩ := blk2 HK.out (.bool x.c) (.bool x.v)
  have HL := Lib.hid (upd_low HB.out hU (by omega))
  generalize (w2.setCell ⟨w.heap.size + 1 + 1, 0, none⟩ (.bool x.c)).setCell ⟨w.heap.size + 1 + 1, 1, none⟩ (.bool x.v) = WW at *
  have r0 : WW.cell? ⟨w.heap.size + 1 + 1, 0, none⟩ = some (.bool x.c) := hB.cell 0
  have r1 : WW.cell? ⟨w.heap.size + 1 + 1, 1, none⟩ = some (.bool x.v) := hB.cell 1
  refine bodyPost_ret (v := rV x) (by simp [results, Tryd.results77, go_sem, r0, r1]) rfl ⟨rfl, HL.out⟩
set_option maxRecDepth 100000 in
set_option maxHeartbeats 2000000 in
theorem wcmp11 (D N M : Nat) (hD : D < 8) (hN : N < 8) (hM : M < 8) (imm : BitVec 32) (hi : imm.toNat < 256) (hi16 : imm.toNat < 16) (s : S) (w : World) : Calls Tryd.prog 77 #[.agg (iC 11 D N M imm.toNat), sv s] w fun e w' => e = .returned (rV (cmp3 11 D N M imm s)) ∧ Below w.heap.size w w' := by
  have e : cmp3 11 D N M imm s = alu3 imm.toNat (s.r D) (s.r M) s.c s.v := rfl
  rw [e]
  have hA := fun W => calu imm.toNat hi16 (s.r D) (s.r M) s.c s.v W
  generalize alu3 imm.toNat (s.r D) (s.r M) s.c s.v = x at hA ⊢
  have HA := Lib.hid hA
  clear hA e
  have hcm := cm_new w 11 D N M imm.toNat s
  have hD2 : (D : Int) < 8 := by omega
  have hN2 : (N : Int) < 8 := by omega
  have hM2 : (M : Int) < 8 := by omega
  have hi2 : (imm.toNat : Int) < 256 := by omega
  have rD := fun (W : World) (h : Blk W (w.heap.size + 1) 51 (sC s)) => h.reg D hD
  have rN := fun (W : World) (h : Blk W (w.heap.size + 1) 51 (sC s)) => h.reg N hN
  have rM := fun (W : World) (h : Blk W (w.heap.size + 1) 51 (sC s)) => h.reg M hM
  have RD := Lib.hid rD; have RN := Lib.hid rN; have RM := Lib.hid rM; have HCM := Lib.hid hcm
  clear rD rN rM hcm
  go_enter Tryd.func77, Tryd.ntmps77
  go_wp2_with fail
  obtain ⟨W0, hW0⟩ : ∃ W0, W0 = ((w.alloc (.cells (iC 11 D N M imm.toNat) 58)).alloc (.cells (sC s) 51)).alloc (.cells #[.bool false, .bool false] 128) := ⟨_, rfl⟩
  rw [← hW0] at HCM ⊢
  clear hW0
  have i0 : W0.cell? ⟨w.heap.size, 0, none⟩ = some (.int .i64 11) := HCM.out.b0.cell 0
  have i1 : W0.cell? ⟨w.heap.size, 1, none⟩ = some (.int .i64 D) := HCM.out.b0.cell 1
  have i2 : W0.cell? ⟨w.heap.size, 2, none⟩ = some (.int .i64 N) := HCM.out.b0.cell 2
  have i3 : W0.cell? ⟨w.heap.size, 3, none⟩ = some (.int .i64 M) := HCM.out.b0.cell 3
  have i4 : W0.cell? ⟨w.heap.size, 4, none⟩ = some (.int .i64 (imm.toNat : Int)) := HCM.out.b0.cell 4
  have s0 := RD.out _ HCM.out.b1; have s1 := RN.out _ HCM.out.b1; have s2 := RM.out _ HCM.out.b1
  have s11 : W0.cell? ⟨w.heap.size + 1, 11, none⟩ = some (.bool s.c) := HCM.out.b1.cell 11
  have s12 : W0.cell? ⟨w.heap.size + 1, 12, none⟩ = some (.bool s.v) := HCM.out.b1.cell 12
  go_quiet (fail)
  have HC1 := Lib.hid (HCM.out.drewN nq)
  have j4 : (W0.drewN nq).cell? ⟨w.heap.size, 4, none⟩ = some (.int .i64 (imm.toNat : Int)) := i4
  have j0 : (W0.drewN nq).cell? ⟨w.heap.size, 0, none⟩ = some (.int .i64 11) := i0
  have t11 : (W0.drewN nq).cell? ⟨w.heap.size + 1, 11, none⟩ = some (.bool s.c) := s11
  have t12 : (W0.drewN nq).cell? ⟨w.heap.size + 1, 12, none⟩ = some (.bool s.v) := s12
  have hsz : (W0.drewN nq).heap.size = w.heap.size + 3 := HCM.out.size
  clear i0 i1 i2 i3 i4 s0 s1 s2 s11 s12 HCM RD RN RM
  generalize W0.drewN nq = W1 at *
  go_wp2_with fail
  refine (HA.out _).mono ?_
  rintro e w2 ⟨rfl, hb⟩
  have hk : Blk w2 (w.heap.size + 1 + 1) 128 #[.bool false, .bool false] := by
    refine Blk.below (HC1.out.b2.alloc _) hb (by simp; omega)
  have HB := Lib.hid (show Below w.heap.size w w2 from (HC1.out.low.alloc (by omega) _).trans (hb.mono (by simp; omega)))
  have k0 := hk.cell 0; have k1 := hk.cell 1; have f0 := hk.frozen 0; have f1 := hk.frozen 1
  have HK := Lib.hid hk
  clear hb hk HC1
  go_wp2_with fail
  obtain ⟨hB, hU⟩ := blk2 HK.out (.bool x.c) (.bool x.v)
  have HL := Lib.hid (upd_low HB.out hU (by omega))
  generalize (w2.setCell ⟨w.heap.size + 1 + 1, 0, none⟩ (.bool x.c)).setCell ⟨w.heap.size + 1 + 1, 1, none⟩ (.bool x.v) = WW at *
  have r0 : WW.cell? ⟨w.heap.size + 1 + 1, 0, none⟩ = some (.bool x.c) := hB.cell 0
  have r1 : WW.cell? ⟨w.heap.size + 1 + 1, 1, none⟩ = some (.bool x.v) := hB.cell 1
  refine bodyPost_ret (v := rV x) (by simp [results, Tryd.results77, go_sem, r0, r1]) rfl ⟨rfl, HL.out⟩
theorem ccmp (op D N M : Nat) (ho : op < 12) (hD : D < 8) (hN : N < 8) (hM : M < 8) (imm : BitVec 32) (hi : imm.toNat < 256) (hi16 : op = 11 → imm.toNat < 16) (s : S) (w : World) : Calls Tryd.prog 77 #[.agg (iC op D N M imm.toNat), sv s] w fun e w' => e = .returned (rV (cmp3 op D N M imm s)) ∧ Below w.heap.size w w' := by
  have hr : op = 0 ∨ op = 1 ∨ op = 2 ∨ op = 3 ∨ op = 4 ∨ op = 5 ∨ op = 6 ∨ op = 7 ∨ op = 8 ∨ op = 9 ∨ op = 10 ∨ op = 11 := by omega
  rcases hr with rfl | rfl | rfl | rfl | rfl | rfl | rfl | rfl | rfl | rfl | rfl | rfl
  · exact wcmp0 D N M hD hN hM imm hi s w
  · exact wcmp1 D N M hD hN hM imm hi s w
  · exact wcmp2 D N M hD hN hM imm hi s w
  · exact wcmp3 D N M hD hN hM imm hi s w
  · exact wcmp4 D N M hD hN hM imm hi s w
  · exact wcmp5 D N M hD hN hM imm hi s w
  · exact wcmp6 D N M hD hN hM imm hi s w
  · exact wcmp7 D N M hD hN hM imm hi s w
  · exact wcmp8 D N M hD hN hM imm hi s w
  · exact wcmp9 D N M hD hN hM imm hi s w
  · exact wcmp10 D N M hD hN hM imm hi s w
  · exact wcmp11 D N M hD hN hM imm hi (hi16 rfl) s w
end Go.Proofs.YtkafmpdjpjgkgaaDoor.Co
