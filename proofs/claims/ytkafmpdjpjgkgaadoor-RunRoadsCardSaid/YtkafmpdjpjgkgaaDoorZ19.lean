/- DERIVED. CoDm in one text. By an AI agent. -/
import Derived.Test.YtkafmpdjpjgkgaaDoorZ18
/- DERIVED. The contract of the program's do: branches, loads, stores. By an AI agent. -/
namespace Go.Proofs.YtkafmpdjpjgkgaaDoor.Co
open Go.ChangeShapes Go.WideShapes Go.ChangeAt Go.RowKit WMath Word Ref Args Mm
set_option linter.unusedVariables false
set_option linter.unusedSimpArgs false
/-- The heads' blocks, whatever else has turned. -/
structure Dx (w : World) (op D N M : Nat) (i : Int) (s nx : S) (W : World) : Prop where
  b0 : Blk W w.heap.size 58 (iC op D N M i)
  b1 : Blk W (w.heap.size + 1) 51 (sC s)
  b2 : Blk W (w.heap.size + 1 + 1) 51 (sC zS)
  b3 : Blk W (w.heap.size + 1 + 1 + 1) 51 (sC nx)
theorem Dn.x {w W : World} {op D N M : Nat} {i : Int} {s nx : S} (h : Dn w op D N M i s nx W) : Dx w op D N M i s nx W := ⟨h.b0, h.b1, h.b2, h.b3⟩
section
variable {X : Nat → Prop} {w W W' : World} {op D N M : Nat} {i : Int} {s nx : S}
theorem Dx.upd (h : Dx w op D N M i s nx W) (hu : Upd X W W') (hx : ∀ k, X k → k < w.heap.size) : Dx w op D N M i s nx W' :=
  ⟨h.b0.upd hu (fun q => by have := hx _ q; omega), h.b1.upd hu (fun q => by have := hx _ q; omega), h.b2.upd hu (fun q => by have := hx _ q; omega), h.b3.upd hu (fun q => by have := hx _ q; omega)⟩
theorem Dx.next (h : Dx w op D N M i s nx W) (nx' : S) (hb : Blk W' (w.heap.size + 1 + 1 + 1) 51 (sC nx')) (hu : Upd (· = w.heap.size + 1 + 1 + 1) W W') : Dx w op D N M i s nx' W' :=
  ⟨h.b0.upd hu (by omega), h.b1.upd hu (by omega), h.b2.upd hu (by omega), hb⟩
theorem Dx.cells (h : Dx w op D N M i s nx W) : Dc w op D N M i s W := ⟨⟨h.b0.cell 0, h.b0.cell 1, h.b0.cell 2, h.b0.cell 3, h.b0.cell 4⟩, Blk.cells13 h.b1⟩
end
theorem upd_b {X : Nat → Prop} {w W W' : World} {g : Nat} (h : Upd X w W) (hu : Upd (· = g) W W') (hg : w.heap.size ≤ g) : Upd X w W' :=
  ⟨hu.os.trans h.os, hu.tape.trans h.tape, hu.output.trans h.output, Nat.le_trans h.size hu.size, fun k hk hx => (hu.block k (Nat.lt_of_lt_of_le hk h.size) (by omega)).trans (h.block k hk hx)⟩
theorem word_in (z : Int) (h0 : 0 ≤ z) (h1 : z < 4294967296) : z = ((BitVec.ofInt 32 z).toNat : Int) := by
  rw [BitVec.toNat_ofInt]; omega
/-- Behind do: what it gives, memory. -/
def DoEnd (n0 : Nat) (h : Hd) (s' : S) (er : Int) (m' : St) (w : World) (e : Ending) (w' : World) : Prop := e = .returned (.tuple #[sv s', .int .i64 er]) ∧ PP n0 h m' w' ∧ Upd h.X w w'
theorem do_below {n0 : Nat} {h : Hd} {s' : S} {m : St} {w w' : World} (p : PP n0 h m w) (hb : Below w.heap.size w w') : DoEnd n0 h s' 0 m w (.returned (.tuple #[sv s', .int .i64 0])) w' := ⟨rfl, p.below hb, Upd.of_below hb _⟩
abbrev K32 (n op D N M : Nat) (i : Int) (s nx : S) (w : World) : Prop := w.cell? ⟨n, 0, none⟩ = some (.int .i64 op) ∧ w.cell? ⟨n, 1, none⟩ = some (.int .i64 D) ∧ w.cell? ⟨n, 2, none⟩ = some (.int .i64 N) ∧ w.cell? ⟨n, 3, none⟩ = some (.int .i64 M) ∧ w.cell? ⟨n, 4, none⟩ = some (.int .i64 i) ∧ w.cell? ⟨n + 1, 0, none⟩ = some (u (s.r 0)) ∧ w.cell? ⟨n + 1, 1, none⟩ = some (u (s.r 1)) ∧ w.cell? ⟨n + 1, 2, none⟩ = some (u (s.r 2)) ∧ w.cell? ⟨n + 1, 3, none⟩ = some (u (s.r 3)) ∧ w.cell? ⟨n + 1, 4, none⟩ = some (u (s.r 4)) ∧ w.cell? ⟨n + 1, 5, none⟩ = some (u (s.r 5)) ∧ w.cell? ⟨n + 1, 6, none⟩ = some (u (s.r 6)) ∧ w.cell? ⟨n + 1, 7, none⟩ = some (u (s.r 7)) ∧ w.cell? ⟨n + 1, 8, none⟩ = some (u s.pc) ∧ w.cell? ⟨n + 1, 9, none⟩ = some (.bool s.n) ∧ w.cell? ⟨n + 1, 10, none⟩ = some (.bool s.z) ∧ w.cell? ⟨n + 1, 11, none⟩ = some (.bool s.c) ∧ w.cell? ⟨n + 1, 12, none⟩ = some (.bool s.v) ∧ w.cell? ⟨n + 1, D, none⟩ = some (u (s.r D)) ∧ w.cell? ⟨n + 1 + 1 + 1, 0, none⟩ = some (u (nx.r 0)) ∧ w.cell? ⟨n + 1 + 1 + 1, 1, none⟩ = some (u (nx.r 1)) ∧ w.cell? ⟨n + 1 + 1 + 1, 2, none⟩ = some (u (nx.r 2)) ∧ w.cell? ⟨n + 1 + 1 + 1, 3, none⟩ = some (u (nx.r 3)) ∧ w.cell? ⟨n + 1 + 1 + 1, 4, none⟩ = some (u (nx.r 4)) ∧ w.cell? ⟨n + 1 + 1 + 1, 5, none⟩ = some (u (nx.r 5)) ∧ w.cell? ⟨n + 1 + 1 + 1, 6, none⟩ = some (u (nx.r 6)) ∧ w.cell? ⟨n + 1 + 1 + 1, 7, none⟩ = some (u (nx.r 7)) ∧ w.cell? ⟨n + 1 + 1 + 1, 8, none⟩ = some (u nx.pc) ∧ w.cell? ⟨n + 1 + 1 + 1, 9, none⟩ = some (.bool nx.n) ∧ w.cell? ⟨n + 1 + 1 + 1, 10, none⟩ = some (.bool nx.z) ∧ w.cell? ⟨n + 1 + 1 + 1, 11, none⟩ = some (.bool nx.c) ∧ w.cell? ⟨n + 1 + 1 + 1, 12, none⟩ = some (.bool nx.v)
theorem Dx.all {w W : World} {op D N M : Nat} {i : Int} {s nx : S} (h : Dx w op D N M i s nx W) (hD : D < 8) : K32 w.heap.size op D N M i s nx W :=
  ⟨h.b0.cell 0, h.b0.cell 1, h.b0.cell 2, h.b0.cell 3, h.b0.cell 4, h.b1.cell 0, h.b1.cell 1, h.b1.cell 2, h.b1.cell 3, h.b1.cell 4, h.b1.cell 5, h.b1.cell 6, h.b1.cell 7, h.b1.cell 8, h.b1.cell 9, h.b1.cell 10, h.b1.cell 11, h.b1.cell 12, h.b1.reg D hD, h.b3.cell 0, h.b3.cell 1, h.b3.cell 2, h.b3.cell 3, h.b3.cell 4, h.b3.cell 5, h.b3.cell 6, h.b3.cell 7, h.b3.cell 8, h.b3.cell 9, h.b3.cell 10, h.b3.cell 11, h.b3.cell 12⟩
theorem all3 {w W : World} {op D N M : Nat} {i : Int} {s nx : S} (h0 : Blk W w.heap.size 58 (iC op D N M i)) (h1 : Blk W (w.heap.size + 1) 51 (sC s)) (h3 : Blk W (w.heap.size + 1 + 1 + 1) 51 (sC nx)) (hD : D < 8) : K32 w.heap.size op D N M i s nx W :=
  ⟨h0.cell 0, h0.cell 1, h0.cell 2, h0.cell 3, h0.cell 4, h1.cell 0, h1.cell 1, h1.cell 2, h1.cell 3, h1.cell 4, h1.cell 5, h1.cell 6, h1.cell 7, h1.cell 8, h1.cell 9, h1.cell 10, h1.cell 11, h1.cell 12, h1.reg D hD, h3.cell 0, h3.cell 1, h3.cell 2, h3.cell 3, h3.cell 4, h3.cell 5, h3.cell 6, h3.cell 7, h3.cell 8, h3.cell 9, h3.cell 10, h3.cell 11, h3.cell 12⟩
set_option maxRecDepth 100000 in
set_option maxHeartbeats 2000000 in
theorem doB17 (D N M : Nat) (i : Int) (s : S) (r : Nat) (w : World) : Calls Tryd.prog 61 #[.agg (iC 17 D N M i), sv s, ptr r] w fun e w' => e = .returned (.tuple #[sv (s.to (nextV 17 D (BitVec.ofInt 32 i) s)), .int .i64 0]) ∧ Below w.heap.size w w' := by
  have hF := fun W => following 17 D N M i s W
  generalize nextV 17 D (BitVec.ofInt 32 i) s = np at *
  have HF := Lib.hid hF
  clear hF
  go_enter Tryd.func61, Tryd.ntmps61
  go_wp2_with fail
  refine (HF.out _).mono ?_
  rintro e w1 ⟨rfl, hb⟩
  have HN := Lib.hid ((dn_new w 17 D N M i s).below hb)
  clear hb HF
  obtain ⟨⟨i0, i1, i2, i3, i4⟩, s0, s1, s2, s3, s4, s5, s6, s7, s8, s9, s10, s11, s12⟩ := HN.out.cells
  obtain ⟨n0, n1, n2, n3, n4, n5, n6, n7, n8, n9, n10, n11, n12⟩ := Blk.cells13 HN.out.b3
  have f8 : w1.frozen? ⟨w.heap.size + 1 + 1 + 1, 8, none⟩ = false := HN.out.b3.frozen 8
  go_upto_region 7 with fail
  have HN2 := Lib.hid (HN.out.next (s.to np) (blk_one HN.out.b3 8 (u np) rfl) (upd_set _ _ _ _ (Upd.refl _ _)))
  clear i0 i1 i2 i3 i4 s0 s1 s2 s3 s4 s5 s6 s7 s8 s9 s10 s11 s12 n0 n1 n2 n3 n4 n5 n6 n7 n8 n9 n10 n11 n12 f8 HN
  obtain ⟨s4, hs4⟩ : ∃ s4, s.to np = s4 := ⟨_, rfl⟩
  rw [hs4] at HN2
  have HS4 := Lib.hid hs4
  clear hs4
  generalize w1.setCell ⟨w.heap.size + 1 + 1 + 1, 8, none⟩ (u np) = w7 at *
  obtain ⟨n0, n1, n2, n3, n4, n5, n6, n7, n8, n9, n10, n11, n12⟩ := Blk.cells13 HN2.out.b3
  obtain ⟨z0, z1, z2, z3, z4, z5, z6, z7, z8, z9, z10, z11, z12⟩ := Blk.cells13 HN2.out.b2
  obtain ⟨f0, f1, f2, f3, f4, f5, f6, f7, f8, f9, f10, f11, f12⟩ := Blk.frozen13 HN2.out.b2
  go_wp2_with fail
  clear n0 n1 n2 n3 n4 n5 n6 n7 n8 n9 n10 n11 n12 z0 z1 z2 z3 z4 z5 z6 z7 z8 z9 z10 z11 z12 f0 f1 f2 f3 f4 f5 f6 f7 f8 f9 f10 f11 f12
  obtain ⟨hB, hU⟩ := blk13 HN2.out.b2 s4
  have HL := Lib.hid (upd_low HN2.out.low hU (by omega))
  obtain ⟨w8, hw8⟩ : ∃ w8, put13 w7 (w.heap.size + 1 + 1) s4 = w8 := ⟨_, rfl⟩
  rw [hw8] at hB HL
  simp only [put13] at hw8
  rw [hw8]
  clear hw8 hU
  obtain ⟨n0, n1, n2, n3, n4, n5, n6, n7, n8, n9, n10, n11, n12⟩ := Blk.cells13 hB
  exact bodyPost_ret (v := .tuple #[sv s4, .int .i64 0]) (by simp [results, Tryd.results61, go_sem, n0, n1, n2, n3, n4, n5, n6, n7, n8, n9, n10, n11, n12]) rfl ⟨by rw [HS4.out], HL.out⟩
set_option maxRecDepth 100000 in
set_option maxHeartbeats 2000000 in
theorem doB18 (D N M : Nat) (i : Int) (s : S) (r : Nat) (w : World) : Calls Tryd.prog 61 #[.agg (iC 18 D N M i), sv s, ptr r] w fun e w' => e = .returned (.tuple #[sv (s.to (nextV 18 D (BitVec.ofInt 32 i) s)), .int .i64 0]) ∧ Below w.heap.size w w' := by
  have hF := fun W => following 18 D N M i s W
  generalize nextV 18 D (BitVec.ofInt 32 i) s = np at *
  have HF := Lib.hid hF
  clear hF
  go_enter Tryd.func61, Tryd.ntmps61
  go_wp2_with fail
  refine (HF.out _).mono ?_
  rintro e w1 ⟨rfl, hb⟩
  have HN := Lib.hid ((dn_new w 18 D N M i s).below hb)
  clear hb HF
  obtain ⟨⟨i0, i1, i2, i3, i4⟩, s0, s1, s2, s3, s4, s5, s6, s7, s8, s9, s10, s11, s12⟩ := HN.out.cells
  obtain ⟨n0, n1, n2, n3, n4, n5, n6, n7, n8, n9, n10, n11, n12⟩ := Blk.cells13 HN.out.b3
  have f8 : w1.frozen? ⟨w.heap.size + 1 + 1 + 1, 8, none⟩ = false := HN.out.b3.frozen 8
  go_upto_region 7 with fail
  have HN2 := Lib.hid (HN.out.next (s.to np) (blk_one HN.out.b3 8 (u np) rfl) (upd_set _ _ _ _ (Upd.refl _ _)))
  clear i0 i1 i2 i3 i4 s0 s1 s2 s3 s4 s5 s6 s7 s8 s9 s10 s11 s12 n0 n1 n2 n3 n4 n5 n6 n7 n8 n9 n10 n11 n12 f8 HN
  obtain ⟨s4, hs4⟩ : ∃ s4, s.to np = s4 := ⟨_, rfl⟩
  rw [hs4] at HN2
  have HS4 := Lib.hid hs4
  clear hs4
  generalize w1.setCell ⟨w.heap.size + 1 + 1 + 1, 8, none⟩ (u np) = w7 at *
  obtain ⟨n0, n1, n2, n3, n4, n5, n6, n7, n8, n9, n10, n11, n12⟩ := Blk.cells13 HN2.out.b3
  obtain ⟨z0, z1, z2, z3, z4, z5, z6, z7, z8, z9, z10, z11, z12⟩ := Blk.cells13 HN2.out.b2
  obtain ⟨f0, f1, f2, f3, f4, f5, f6, f7, f8, f9, f10, f11, f12⟩ := Blk.frozen13 HN2.out.b2
  go_wp2_with fail
  clear n0 n1 n2 n3 n4 n5 n6 n7 n8 n9 n10 n11 n12 z0 z1 z2 z3 z4 z5 z6 z7 z8 z9 z10 z11 z12 f0 f1 f2 f3 f4 f5 f6 f7 f8 f9 f10 f11 f12
  obtain ⟨hB, hU⟩ := blk13 HN2.out.b2 s4
  have HL := Lib.hid (upd_low HN2.out.low hU (by omega))
  obtain ⟨w8, hw8⟩ : ∃ w8, put13 w7 (w.heap.size + 1 + 1) s4 = w8 := ⟨_, rfl⟩
  rw [hw8] at hB HL
  simp only [put13] at hw8
  rw [hw8]
  clear hw8 hU
  obtain ⟨n0, n1, n2, n3, n4, n5, n6, n7, n8, n9, n10, n11, n12⟩ := Blk.cells13 hB
  exact bodyPost_ret (v := .tuple #[sv s4, .int .i64 0]) (by simp [results, Tryd.results61, go_sem, n0, n1, n2, n3, n4, n5, n6, n7, n8, n9, n10, n11, n12]) rfl ⟨by rw [HS4.out], HL.out⟩
set_option maxRecDepth 100000 in
set_option maxHeartbeats 2000000 in
theorem doB19 (D N M : Nat) (i : Int) (s : S) (r : Nat) (w : World) : Calls Tryd.prog 61 #[.agg (iC 19 D N M i), sv s, ptr r] w fun e w' => e = .returned (.tuple #[sv (s.to (nextV 19 D (BitVec.ofInt 32 i) s)), .int .i64 0]) ∧ Below w.heap.size w w' := by
  have hF := fun W => following 19 D N M i s W
  generalize nextV 19 D (BitVec.ofInt 32 i) s = np at *
  have HF := Lib.hid hF
  clear hF
  go_enter Tryd.func61, Tryd.ntmps61
  go_wp2_with fail
  refine (HF.out _).mono ?_
  rintro e w1 ⟨rfl, hb⟩
  have HN := Lib.hid ((dn_new w 19 D N M i s).below hb)
  clear hb HF
  obtain ⟨⟨i0, i1, i2, i3, i4⟩, s0, s1, s2, s3, s4, s5, s6, s7, s8, s9, s10, s11, s12⟩ := HN.out.cells
  obtain ⟨n0, n1, n2, n3, n4, n5, n6, n7, n8, n9, n10, n11, n12⟩ := Blk.cells13 HN.out.b3
  have f8 : w1.frozen? ⟨w.heap.size + 1 + 1 + 1, 8, none⟩ = false := HN.out.b3.frozen 8
  go_upto_region 7 with fail
  have HN2 := Lib.hid (HN.out.next (s.to np) (blk_one HN.out.b3 8 (u np) rfl) (upd_set _ _ _ _ (Upd.refl _ _)))
  clear i0 i1 i2 i3 i4 s0 s1 s2 s3 s4 s5 s6 s7 s8 s9 s10 s11 s12 n0 n1 n2 n3 n4 n5 n6 n7 n8 n9 n10 n11 n12 f8 HN
  obtain ⟨s4, hs4⟩ : ∃ s4, s.to np = s4 := ⟨_, rfl⟩
  rw [hs4] at HN2
  have HS4 := Lib.hid hs4
  clear hs4
  generalize w1.setCell ⟨w.heap.size + 1 + 1 + 1, 8, none⟩ (u np) = w7 at *
  obtain ⟨n0, n1, n2, n3, n4, n5, n6, n7, n8, n9, n10, n11, n12⟩ := Blk.cells13 HN2.out.b3
  obtain ⟨z0, z1, z2, z3, z4, z5, z6, z7, z8, z9, z10, z11, z12⟩ := Blk.cells13 HN2.out.b2
  obtain ⟨f0, f1, f2, f3, f4, f5, f6, f7, f8, f9, f10, f11, f12⟩ := Blk.frozen13 HN2.out.b2
  go_wp2_with fail
  clear n0 n1 n2 n3 n4 n5 n6 n7 n8 n9 n10 n11 n12 z0 z1 z2 z3 z4 z5 z6 z7 z8 z9 z10 z11 z12 f0 f1 f2 f3 f4 f5 f6 f7 f8 f9 f10 f11 f12
  obtain ⟨hB, hU⟩ := blk13 HN2.out.b2 s4
  have HL := Lib.hid (upd_low HN2.out.low hU (by omega))
  obtain ⟨w8, hw8⟩ : ∃ w8, put13 w7 (w.heap.size + 1 + 1) s4 = w8 := ⟨_, rfl⟩
  rw [hw8] at hB HL
  simp only [put13] at hw8
  rw [hw8]
  clear hw8 hU
  obtain ⟨n0, n1, n2, n3, n4, n5, n6, n7, n8, n9, n10, n11, n12⟩ := Blk.cells13 hB
  exact bodyPost_ret (v := .tuple #[sv s4, .int .i64 0]) (by simp [results, Tryd.results61, go_sem, n0, n1, n2, n3, n4, n5, n6, n7, n8, n9, n10, n11, n12]) rfl ⟨by rw [HS4.out], HL.out⟩
set_option maxRecDepth 100000 in
set_option maxHeartbeats 2000000 in
theorem doLd12 (D N M : Nat) (hD : D < 8) (hN : N < 8) (hM : M < 8) (i : Int) (s : S) (n0 : Nat) (h : Hd) (m : St) (w : World) (p : PP n0 h m w) : Calls Tryd.prog 61 #[.agg (iC 12 D N M i), sv s, ptr h.r] w (DoEnd n0 h ((s.to (nextV 12 D (BitVec.ofInt 32 i) s)).up D (BitVec.ofInt 32 (lookV m ((addrV 12 N M (BitVec.ofInt 32 i) s).toNat : Int)).1)) ((lookV m ((addrV 12 N M (BitVec.ofInt 32 i) s).toNat : Int)).2) (loadS m ((addrV 12 N M (BitVec.ofInt 32 i) s).toNat : Int)) w) := by
  have hA := fun W => address 12 D N M hN hM i s (by decide) W
  have hD2 : (D : Int) < 8 := by omega
  have hX : ∀ k, h.X k → k < w.heap.size := fun k hk => (p.lt (Hd.XB hk)).2
  have hBB : ∀ k, h.B k → k < w.heap.size := fun k hk => (p.lt hk).2
  generalize addrV 12 N M (BitVec.ofInt 32 i) s = ad at *
  have HA := Lib.hid hA; have HP := Lib.hid p; have HX := Lib.hid hX; have HBB := Lib.hid hBB
  clear hA hX hBB p
  have hF := fun W => following 12 D N M i s W
  generalize nextV 12 D (BitVec.ofInt 32 i) s = np at *
  have HF := Lib.hid hF
  clear hF
  go_enter Tryd.func61, Tryd.ntmps61
  go_wp2_with fail
  refine (HF.out _).mono ?_
  rintro e w1 ⟨rfl, hb⟩
  have HN := Lib.hid ((dn_new w 12 D N M i s).below hb)
  clear hb HF
  obtain ⟨⟨i0, i1, i2, i3, i4⟩, s0, s1, s2, s3, s4, s5, s6, s7, s8, s9, s10, s11, s12⟩ := HN.out.cells
  obtain ⟨n0, n1, n2, n3, n4, n5, n6, n7, n8, n9, n10, n11, n12⟩ := Blk.cells13 HN.out.b3
  have f8 : w1.frozen? ⟨w.heap.size + 1 + 1 + 1, 8, none⟩ = false := HN.out.b3.frozen 8
  go_wp2_with fail
  refine (HA.out _).mono ?_
  rintro e w2 ⟨rfl, hb⟩
  have HN2 := Lib.hid ((HN.out.next (s.to np) (blk_one HN.out.b3 8 (u np) rfl) (upd_set _ _ _ _ (Upd.refl _ _))).below hb)
  clear i0 i1 i2 i3 i4 s0 s1 s2 s3 s4 s5 s6 s7 s8 s9 s10 s11 s12 n0 n1 n2 n3 n4 n5 n6 n7 n8 n9 n10 n11 n12 f8 HN hb HA
  obtain ⟨s1, hs1⟩ : ∃ s1, s.to np = s1 := ⟨_, rfl⟩
  rw [hs1] at HN2
  have HS1 := Lib.hid hs1
  clear hs1
  go_wp2_with fail
  refine (Mm.load n0 h m w2 (ad.toNat : Int) (HP.out.below HN2.out.low)).mono ?_
  rintro e w3 ⟨rfl, hp3, hu3⟩
  have HP3 := Lib.hid hp3
  have HX3 := Lib.hid (HN2.out.x.upd hu3 HX.out)
  have HU3 := Lib.hid ((Upd.of_below HN2.out.low h.X).trans hu3)
  have hbd := HP.out.fit.look (ad.toNat : Int)
  have hy := word_in _ hbd.1 hbd.2
  clear hp3 hu3 HN2 hbd
  obtain ⟨y, hy2⟩ : ∃ y, BitVec.ofInt 32 (lookV m (ad.toNat : Int)).1 = y := ⟨_, rfl⟩
  rw [hy2] at hy
  rw [hy]
  have HY := Lib.hid hy2
  clear hy hy2
  obtain ⟨er, her⟩ : ∃ er, (lookV m (ad.toNat : Int)).2 = er := ⟨_, rfl⟩
  rw [her]
  have HER := Lib.hid her
  clear her
  obtain ⟨⟨i0, i1, i2, i3, i4⟩, _⟩ := HX3.out.cells
  have nD := HX3.out.b3.reg D hD
  have fD := HX3.out.b3.frozen D
  go_upto_region 13 with fail
  have HX4 := Lib.hid (HX3.out.next (s1.up D y) (HX3.out.b3.up D hD y) (upd_set _ _ _ _ (Upd.refl _ _)))
  have hu4 := upd_set w3 (w.heap.size + 1 + 1 + 1) D (u y) (Upd.refl _ w3)
  have HU4 := Lib.hid (upd_b HU3.out hu4 (by omega))
  have HP4 := Lib.hid (HP3.out.upd hu4 (fun k hk e => by have := HBB.out k hk; omega))
  obtain ⟨s4, hs4⟩ : ∃ s4, s1.up D y = s4 := ⟨_, rfl⟩
  rw [hs4] at HX4
  have HS4 := Lib.hid hs4
  clear hs4 hu4 i0 i1 i2 i3 i4 nD fD HX3 HU3 HP3
  generalize w3.setCell ⟨w.heap.size + 1 + 1 + 1, D, none⟩ (u y) = w7 at *
  obtain ⟨n0, n1, n2, n3, n4, n5, n6, n7, n8, n9, n10, n11, n12⟩ := Blk.cells13 HX4.out.b3
  obtain ⟨z0, z1, z2, z3, z4, z5, z6, z7, z8, z9, z10, z11, z12⟩ := Blk.cells13 HX4.out.b2
  obtain ⟨f0, f1, f2, f3, f4, f5, f6, f7, f8, f9, f10, f11, f12⟩ := Blk.frozen13 HX4.out.b2
  go_wp2_with fail
  clear n0 n1 n2 n3 n4 n5 n6 n7 n8 n9 n10 n11 n12 z0 z1 z2 z3 z4 z5 z6 z7 z8 z9 z10 z11 z12 f0 f1 f2 f3 f4 f5 f6 f7 f8 f9 f10 f11 f12
  obtain ⟨hB, hU⟩ := blk13 HX4.out.b2 s4
  have HL := Lib.hid (upd_b HU4.out hU (by omega))
  have HPL := Lib.hid (HP4.out.upd hU (fun k hk e => by have := HBB.out k hk; omega))
  obtain ⟨w8, hw8⟩ : ∃ w8, put13 w7 (w.heap.size + 1 + 1) s4 = w8 := ⟨_, rfl⟩
  rw [hw8] at hB HL HPL
  simp only [put13] at hw8
  rw [hw8]
  clear hw8 hU
  obtain ⟨n0, n1, n2, n3, n4, n5, n6, n7, n8, n9, n10, n11, n12⟩ := Blk.cells13 hB
  exact bodyPost_ret (v := .tuple #[sv s4, .int .i64 er]) (by simp [results, Tryd.results61, go_sem, n0, n1, n2, n3, n4, n5, n6, n7, n8, n9, n10, n11, n12]) rfl ⟨by rw [HS1.out, HY.out, HS4.out, HER.out], HPL.out, HL.out⟩
set_option maxRecDepth 100000 in
set_option maxHeartbeats 2000000 in
theorem doLd14 (D N M : Nat) (hD : D < 8) (hN : N < 8) (hM : M < 8) (i : Int) (s : S) (n0 : Nat) (h : Hd) (m : St) (w : World) (p : PP n0 h m w) : Calls Tryd.prog 61 #[.agg (iC 14 D N M i), sv s, ptr h.r] w (DoEnd n0 h ((s.to (nextV 14 D (BitVec.ofInt 32 i) s)).up D (BitVec.ofInt 32 (lookV m ((addrV 14 N M (BitVec.ofInt 32 i) s).toNat : Int)).1)) ((lookV m ((addrV 14 N M (BitVec.ofInt 32 i) s).toNat : Int)).2) (loadS m ((addrV 14 N M (BitVec.ofInt 32 i) s).toNat : Int)) w) := by
  have hA := fun W => address 14 D N M hN hM i s (by decide) W
  have hD2 : (D : Int) < 8 := by omega
  have hX : ∀ k, h.X k → k < w.heap.size := fun k hk => (p.lt (Hd.XB hk)).2
  have hBB : ∀ k, h.B k → k < w.heap.size := fun k hk => (p.lt hk).2
  generalize addrV 14 N M (BitVec.ofInt 32 i) s = ad at *
  have HA := Lib.hid hA; have HP := Lib.hid p; have HX := Lib.hid hX; have HBB := Lib.hid hBB
  clear hA hX hBB p
  have hF := fun W => following 14 D N M i s W
  generalize nextV 14 D (BitVec.ofInt 32 i) s = np at *
  have HF := Lib.hid hF
  clear hF
  go_enter Tryd.func61, Tryd.ntmps61
  go_wp2_with fail
  refine (HF.out _).mono ?_
  rintro e w1 ⟨rfl, hb⟩
  have HN := Lib.hid ((dn_new w 14 D N M i s).below hb)
  clear hb HF
  obtain ⟨⟨i0, i1, i2, i3, i4⟩, s0, s1, s2, s3, s4, s5, s6, s7, s8, s9, s10, s11, s12⟩ := HN.out.cells
  obtain ⟨n0, n1, n2, n3, n4, n5, n6, n7, n8, n9, n10, n11, n12⟩ := Blk.cells13 HN.out.b3
  have f8 : w1.frozen? ⟨w.heap.size + 1 + 1 + 1, 8, none⟩ = false := HN.out.b3.frozen 8
  go_wp2_with fail
  refine (HA.out _).mono ?_
  rintro e w2 ⟨rfl, hb⟩
  have HN2 := Lib.hid ((HN.out.next (s.to np) (blk_one HN.out.b3 8 (u np) rfl) (upd_set _ _ _ _ (Upd.refl _ _))).below hb)
  clear i0 i1 i2 i3 i4 s0 s1 s2 s3 s4 s5 s6 s7 s8 s9 s10 s11 s12 n0 n1 n2 n3 n4 n5 n6 n7 n8 n9 n10 n11 n12 f8 HN hb HA
  obtain ⟨s1, hs1⟩ : ∃ s1, s.to np = s1 := ⟨_, rfl⟩
  rw [hs1] at HN2
  have HS1 := Lib.hid hs1
  clear hs1
  go_wp2_with fail
  refine (Mm.load n0 h m w2 (ad.toNat : Int) (HP.out.below HN2.out.low)).mono ?_
  rintro e w3 ⟨rfl, hp3, hu3⟩
  have HP3 := Lib.hid hp3
  have HX3 := Lib.hid (HN2.out.x.upd hu3 HX.out)
  have HU3 := Lib.hid ((Upd.of_below HN2.out.low h.X).trans hu3)
  have hbd := HP.out.fit.look (ad.toNat : Int)
  have hy := word_in _ hbd.1 hbd.2
  clear hp3 hu3 HN2 hbd
  obtain ⟨y, hy2⟩ : ∃ y, BitVec.ofInt 32 (lookV m (ad.toNat : Int)).1 = y := ⟨_, rfl⟩
  rw [hy2] at hy
  rw [hy]
  have HY := Lib.hid hy2
  clear hy hy2
  obtain ⟨er, her⟩ : ∃ er, (lookV m (ad.toNat : Int)).2 = er := ⟨_, rfl⟩
  rw [her]
  have HER := Lib.hid her
  clear her
  obtain ⟨⟨i0, i1, i2, i3, i4⟩, _⟩ := HX3.out.cells
  have nD := HX3.out.b3.reg D hD
  have fD := HX3.out.b3.frozen D
  go_upto_region 13 with fail
  have HX4 := Lib.hid (HX3.out.next (s1.up D y) (HX3.out.b3.up D hD y) (upd_set _ _ _ _ (Upd.refl _ _)))
  have hu4 := upd_set w3 (w.heap.size + 1 + 1 + 1) D (u y) (Upd.refl _ w3)
  have HU4 := Lib.hid (upd_b HU3.out hu4 (by omega))
  have HP4 := Lib.hid (HP3.out.upd hu4 (fun k hk e => by have := HBB.out k hk; omega))
  obtain ⟨s4, hs4⟩ : ∃ s4, s1.up D y = s4 := ⟨_, rfl⟩
  rw [hs4] at HX4
  have HS4 := Lib.hid hs4
  clear hs4 hu4 i0 i1 i2 i3 i4 nD fD HX3 HU3 HP3
  generalize w3.setCell ⟨w.heap.size + 1 + 1 + 1, D, none⟩ (u y) = w7 at *
  obtain ⟨n0, n1, n2, n3, n4, n5, n6, n7, n8, n9, n10, n11, n12⟩ := Blk.cells13 HX4.out.b3
  obtain ⟨z0, z1, z2, z3, z4, z5, z6, z7, z8, z9, z10, z11, z12⟩ := Blk.cells13 HX4.out.b2
  obtain ⟨f0, f1, f2, f3, f4, f5, f6, f7, f8, f9, f10, f11, f12⟩ := Blk.frozen13 HX4.out.b2
  go_wp2_with fail
  clear n0 n1 n2 n3 n4 n5 n6 n7 n8 n9 n10 n11 n12 z0 z1 z2 z3 z4 z5 z6 z7 z8 z9 z10 z11 z12 f0 f1 f2 f3 f4 f5 f6 f7 f8 f9 f10 f11 f12
  obtain ⟨hB, hU⟩ := blk13 HX4.out.b2 s4
  have HL := Lib.hid (upd_b HU4.out hU (by omega))
  have HPL := Lib.hid (HP4.out.upd hU (fun k hk e => by have := HBB.out k hk; omega))
  obtain ⟨w8, hw8⟩ : ∃ w8, put13 w7 (w.heap.size + 1 + 1) s4 = w8 := ⟨_, rfl⟩
  rw [hw8] at hB HL HPL
  simp only [put13] at hw8
  rw [hw8]
  clear hw8 hU
  obtain ⟨n0, n1, n2, n3, n4, n5, n6, n7, n8, n9, n10, n11, n12⟩ := Blk.cells13 hB
  exact bodyPost_ret (v := .tuple #[sv s4, .int .i64 er]) (by simp [results, Tryd.results61, go_sem, n0, n1, n2, n3, n4, n5, n6, n7, n8, n9, n10, n11, n12]) rfl ⟨by rw [HS1.out, HY.out, HS4.out, HER.out], HPL.out, HL.out⟩
set_option maxRecDepth 100000 in
set_option maxHeartbeats 2000000 in
theorem doLd16 (D N M : Nat) (hD : D < 8) (hN : N < 8) (hM : M < 8) (i : Int) (s : S) (n0 : Nat) (h : Hd) (m : St) (w : World) (p : PP n0 h m w) : Calls Tryd.prog 61 #[.agg (iC 16 D N M i), sv s, ptr h.r] w (DoEnd n0 h ((s.to (nextV 16 D (BitVec.ofInt 32 i) s)).up D (BitVec.ofInt 32 (lookV m ((addrV 16 N M (BitVec.ofInt 32 i) s).toNat : Int)).1)) ((lookV m ((addrV 16 N M (BitVec.ofInt 32 i) s).toNat : Int)).2) (loadS m ((addrV 16 N M (BitVec.ofInt 32 i) s).toNat : Int)) w) := by
  have hA := fun W => address 16 D N M hN hM i s (by decide) W
  have hD2 : (D : Int) < 8 := by omega
  have hX : ∀ k, h.X k → k < w.heap.size := fun k hk => (p.lt (Hd.XB hk)).2
  have hBB : ∀ k, h.B k → k < w.heap.size := fun k hk => (p.lt hk).2
  generalize addrV 16 N M (BitVec.ofInt 32 i) s = ad at *
  have HA := Lib.hid hA; have HP := Lib.hid p; have HX := Lib.hid hX; have HBB := Lib.hid hBB
  clear hA hX hBB p
  have hF := fun W => following 16 D N M i s W
  generalize nextV 16 D (BitVec.ofInt 32 i) s = np at *
  have HF := Lib.hid hF
  clear hF
  go_enter Tryd.func61, Tryd.ntmps61
  go_wp2_with fail
  refine (HF.out _).mono ?_
  rintro e w1 ⟨rfl, hb⟩
  have HN := Lib.hid ((dn_new w 16 D N M i s).below hb)
  clear hb HF
  obtain ⟨⟨i0, i1, i2, i3, i4⟩, s0, s1, s2, s3, s4, s5, s6, s7, s8, s9, s10, s11, s12⟩ := HN.out.cells
  obtain ⟨n0, n1, n2, n3, n4, n5, n6, n7, n8, n9, n10, n11, n12⟩ := Blk.cells13 HN.out.b3
  have f8 : w1.frozen? ⟨w.heap.size + 1 + 1 + 1, 8, none⟩ = false := HN.out.b3.frozen 8
  go_wp2_with fail
  refine (HA.out _).mono ?_
  rintro e w2 ⟨rfl, hb⟩
  have HN2 := Lib.hid ((HN.out.next (s.to np) (blk_one HN.out.b3 8 (u np) rfl) (upd_set _ _ _ _ (Upd.refl _ _))).below hb)
  clear i0 i1 i2 i3 i4 s0 s1 s2 s3 s4 s5 s6 s7 s8 s9 s10 s11 s12 n0 n1 n2 n3 n4 n5 n6 n7 n8 n9 n10 n11 n12 f8 HN hb HA
  obtain ⟨s1, hs1⟩ : ∃ s1, s.to np = s1 := ⟨_, rfl⟩
  rw [hs1] at HN2
  have HS1 := Lib.hid hs1
  clear hs1
  go_wp2_with fail
  refine (Mm.load n0 h m w2 (ad.toNat : Int) (HP.out.below HN2.out.low)).mono ?_
  rintro e w3 ⟨rfl, hp3, hu3⟩
  have HP3 := Lib.hid hp3
  have HX3 := Lib.hid (HN2.out.x.upd hu3 HX.out)
  have HU3 := Lib.hid ((Upd.of_below HN2.out.low h.X).trans hu3)
  have hbd := HP.out.fit.look (ad.toNat : Int)
  have hy := word_in _ hbd.1 hbd.2
  clear hp3 hu3 HN2 hbd
  obtain ⟨y, hy2⟩ : ∃ y, BitVec.ofInt 32 (lookV m (ad.toNat : Int)).1 = y := ⟨_, rfl⟩
  rw [hy2] at hy
  rw [hy]
  have HY := Lib.hid hy2
  clear hy hy2
  obtain ⟨er, her⟩ : ∃ er, (lookV m (ad.toNat : Int)).2 = er := ⟨_, rfl⟩
  rw [her]
  have HER := Lib.hid her
  clear her
  obtain ⟨⟨i0, i1, i2, i3, i4⟩, _⟩ := HX3.out.cells
  have nD := HX3.out.b3.reg D hD
  have fD := HX3.out.b3.frozen D
  go_upto_region 13 with fail
  have HX4 := Lib.hid (HX3.out.next (s1.up D y) (HX3.out.b3.up D hD y) (upd_set _ _ _ _ (Upd.refl _ _)))
  have hu4 := upd_set w3 (w.heap.size + 1 + 1 + 1) D (u y) (Upd.refl _ w3)
  have HU4 := Lib.hid (upd_b HU3.out hu4 (by omega))
  have HP4 := Lib.hid (HP3.out.upd hu4 (fun k hk e => by have := HBB.out k hk; omega))
  obtain ⟨s4, hs4⟩ : ∃ s4, s1.up D y = s4 := ⟨_, rfl⟩
  rw [hs4] at HX4
  have HS4 := Lib.hid hs4
  clear hs4 hu4 i0 i1 i2 i3 i4 nD fD HX3 HU3 HP3
  generalize w3.setCell ⟨w.heap.size + 1 + 1 + 1, D, none⟩ (u y) = w7 at *
  obtain ⟨n0, n1, n2, n3, n4, n5, n6, n7, n8, n9, n10, n11, n12⟩ := Blk.cells13 HX4.out.b3
  obtain ⟨z0, z1, z2, z3, z4, z5, z6, z7, z8, z9, z10, z11, z12⟩ := Blk.cells13 HX4.out.b2
  obtain ⟨f0, f1, f2, f3, f4, f5, f6, f7, f8, f9, f10, f11, f12⟩ := Blk.frozen13 HX4.out.b2
  go_wp2_with fail
  clear n0 n1 n2 n3 n4 n5 n6 n7 n8 n9 n10 n11 n12 z0 z1 z2 z3 z4 z5 z6 z7 z8 z9 z10 z11 z12 f0 f1 f2 f3 f4 f5 f6 f7 f8 f9 f10 f11 f12
  obtain ⟨hB, hU⟩ := blk13 HX4.out.b2 s4
  have HL := Lib.hid (upd_b HU4.out hU (by omega))
  have HPL := Lib.hid (HP4.out.upd hU (fun k hk e => by have := HBB.out k hk; omega))
  obtain ⟨w8, hw8⟩ : ∃ w8, put13 w7 (w.heap.size + 1 + 1) s4 = w8 := ⟨_, rfl⟩
  rw [hw8] at hB HL HPL
  simp only [put13] at hw8
  rw [hw8]
  clear hw8 hU
  obtain ⟨n0, n1, n2, n3, n4, n5, n6, n7, n8, n9, n10, n11, n12⟩ := Blk.cells13 hB
  exact bodyPost_ret (v := .tuple #[sv s4, .int .i64 er]) (by simp [results, Tryd.results61, go_sem, n0, n1, n2, n3, n4, n5, n6, n7, n8, n9, n10, n11, n12]) rfl ⟨by rw [HS1.out, HY.out, HS4.out, HER.out], HPL.out, HL.out⟩
set_option maxRecDepth 100000 in
set_option maxHeartbeats 2000000 in
theorem doSt13 (D N M : Nat) (hD : D < 8) (hN : N < 8) (hM : M < 8) (i : Int) (s : S) (n0 : Nat) (h : Hd) (m : St) (w : World) (p : PP n0 h m w) : Calls Tryd.prog 61 #[.agg (iC 13 D N M i), sv s, ptr h.r] w (DoEnd n0 h (s.to (nextV 13 D (BitVec.ofInt 32 i) s)) (storeE m ((addrV 13 N M (BitVec.ofInt 32 i) s).toNat : Int)) (storeS m ((addrV 13 N M (BitVec.ofInt 32 i) s).toNat : Int) ((s.r D).toNat : Int)) w) := by
  have hA := fun W => address 13 D N M hN hM i s (by decide) W
  have hD2 : (D : Int) < 8 := by omega
  have hX : ∀ k, h.X k → k < w.heap.size := fun k hk => (p.lt (Hd.XB hk)).2
  have hBB : ∀ k, h.B k → k < w.heap.size := fun k hk => (p.lt hk).2
  generalize addrV 13 N M (BitVec.ofInt 32 i) s = ad at *
  have HA := Lib.hid hA; have HP := Lib.hid p; have HX := Lib.hid hX; have HBB := Lib.hid hBB
  clear hA hX hBB p
  have hF := fun W => following 13 D N M i s W
  generalize nextV 13 D (BitVec.ofInt 32 i) s = np at *
  have HF := Lib.hid hF
  clear hF
  go_enter Tryd.func61, Tryd.ntmps61
  go_wp2_with fail
  refine (HF.out _).mono ?_
  rintro e w1 ⟨rfl, hb⟩
  have HN := Lib.hid ((dn_new w 13 D N M i s).below hb)
  clear hb HF
  obtain ⟨⟨i0, i1, i2, i3, i4⟩, s0, s1, s2, s3, s4, s5, s6, s7, s8, s9, s10, s11, s12⟩ := HN.out.cells
  obtain ⟨n0, n1, n2, n3, n4, n5, n6, n7, n8, n9, n10, n11, n12⟩ := Blk.cells13 HN.out.b3
  have f8 : w1.frozen? ⟨w.heap.size + 1 + 1 + 1, 8, none⟩ = false := HN.out.b3.frozen 8
  go_upto_region 16 with fail
  have HN2 := Lib.hid (HN.out.next (s.to np) (blk_one HN.out.b3 8 (u np) rfl) (upd_set _ _ _ _ (Upd.refl _ _)))
  clear i0 i1 i2 i3 i4 s0 s1 s2 s3 s4 s5 s6 s7 s8 s9 s10 s11 s12 n0 n1 n2 n3 n4 n5 n6 n7 n8 n9 n10 n11 n12 f8 HN
  obtain ⟨s1, hs1⟩ : ∃ s1, s.to np = s1 := ⟨_, rfl⟩
  rw [hs1] at HN2
  have HS1 := Lib.hid hs1
  clear hs1
  generalize w1.setCell ⟨w.heap.size + 1 + 1 + 1, 8, none⟩ (u np) = w2 at *
  have HL0 := Lib.hid (show K32 w.heap.size 13 D N M i s s1 w2 from HN2.out.x.all hD)
  have HL0d := Lib.hid (show K32 w.heap.size 13 D N M i s s1 (w2.drew) from HN2.out.drew.x.all hD)
  have HSD := Lib.hid (show 0 ≤ ((s.r D).toNat : Int) ∧ ((s.r D).toNat : Int) < 4294967296 from ⟨by omega, bd (s.r D)⟩)
  have hD3 : (0 : Int) ≤ (D : Int) := by omega
  obtain ⟨c0, c1, c2, c3, c4, c5, c6, c7, c8, c9, c10, c11, c12, c13, c14, c15, c16, c17, cD, n0', n1, n2, n3, n4, n5, n6, n7, n8, n9, n10, n11, n12⟩ := HN2.out.x.all hD
  go_region_held3 (fun w' => K32 w.heap.size 13 D N M i s s1 w') (first | with_reducible exact HL0.out | with_reducible exact HL0d.out | with_reducible exact HL1.out | with_reducible exact HL2.out | with_reducible exact HL3.out) (first | (go_at_call 76; refine (Mm.store n0 h m _ (ad.toNat : Int) ((s.r D).toNat : Int) HSD.out HP1.out).mono ?_; rintro e w4 ⟨rfl, hp4, hu4⟩; have HP4 := Lib.hid hp4; have HX4 := Lib.hid (HX1.out.upd hu4 HX.out); have HL2 := Lib.hid (show K32 w.heap.size 13 D N M i s s1 w4 from HX4.out.all hD); have HU4 := Lib.hid (HU1.out.trans hu4); clear hp4 hu4; obtain ⟨z0, z1, z2, z3, z4, z5, z6, z7, z8, z9, z10, z11, z12⟩ := Blk.cells13 HX4.out.b2; obtain ⟨f0, f1, f2, f3, f4, f5, f6, f7, f8, f9, f10, f11, f12⟩ := Blk.frozen13 HX4.out.b2; have HB5 := Lib.hid (blk13 HX4.out.b2 s1); have HL3 := Lib.hid (show K32 w.heap.size 13 D N M i s s1 ((put13 w4 (w.heap.size + 1 + 1) s1)) from all3 (HX4.out.b0.upd HB5.out.2 (by omega)) (HX4.out.b1.upd HB5.out.2 (by omega)) (HX4.out.b3.upd HB5.out.2 (by omega)) hD)) | (go_at_call 75; refine (HA.out _).mono ?_; rintro e w3 ⟨rfl, hb⟩; have HN3 := Lib.hid (HN2.out.drew.below hb); have HX1 := Lib.hid HN3.out.x; have HL1 := Lib.hid (show K32 w.heap.size 13 D N M i s s1 w3 from HX1.out.all hD); have HP1 := Lib.hid (HP.out.below HN3.out.low); have HU1 := Lib.hid (Upd.of_below HN3.out.low h.X); clear hb))
  obtain ⟨hB, hU⟩ := HB5.out
  have HF5 := Lib.hid (upd_b HU4.out hU (by omega))
  have HP5 := Lib.hid (HP4.out.upd hU (fun k hk e => by have := HBB.out k hk; omega))
  clear HL0 HL0d HL1 HL2 HL3 HB5 HX4 HX1 HN3 z0 z1 z2 z3 z4 z5 z6 z7 z8 z9 z10 z11 z12 f0 f1 f2 f3 f4 f5 f6 f7 f8 f9 f10 f11 f12 hU
  obtain ⟨w8, hw8⟩ : ∃ w8, put13 w4 (w.heap.size + 1 + 1) s1 = w8 := ⟨_, rfl⟩
  rw [hw8] at hB HF5 HP5
  simp only [put13] at hw8
  rw [hw8]
  clear hw8
  obtain ⟨n0, n1, n2, n3, n4, n5, n6, n7, n8, n9, n10, n11, n12⟩ := Blk.cells13 hB
  go_wp2_with fail
  exact bodyPost_ret (v := .tuple #[sv s1, .int .i64 (storeE m (ad.toNat : Int))]) (by simp [results, Tryd.results61, go_sem, n0, n1, n2, n3, n4, n5, n6, n7, n8, n9, n10, n11, n12]) rfl ⟨by rw [HS1.out], HP5.out, HF5.out⟩
set_option maxRecDepth 100000 in
set_option maxHeartbeats 2000000 in
theorem doSt15 (D N M : Nat) (hD : D < 8) (hN : N < 8) (hM : M < 8) (i : Int) (s : S) (n0 : Nat) (h : Hd) (m : St) (w : World) (p : PP n0 h m w) : Calls Tryd.prog 61 #[.agg (iC 15 D N M i), sv s, ptr h.r] w (DoEnd n0 h (s.to (nextV 15 D (BitVec.ofInt 32 i) s)) (storeE m ((addrV 15 N M (BitVec.ofInt 32 i) s).toNat : Int)) (storeS m ((addrV 15 N M (BitVec.ofInt 32 i) s).toNat : Int) ((s.r D).toNat : Int)) w) := by
  have hA := fun W => address 15 D N M hN hM i s (by decide) W
  have hD2 : (D : Int) < 8 := by omega
  have hX : ∀ k, h.X k → k < w.heap.size := fun k hk => (p.lt (Hd.XB hk)).2
  have hBB : ∀ k, h.B k → k < w.heap.size := fun k hk => (p.lt hk).2
  generalize addrV 15 N M (BitVec.ofInt 32 i) s = ad at *
  have HA := Lib.hid hA; have HP := Lib.hid p; have HX := Lib.hid hX; have HBB := Lib.hid hBB
  clear hA hX hBB p
  have hF := fun W => following 15 D N M i s W
  generalize nextV 15 D (BitVec.ofInt 32 i) s = np at *
  have HF := Lib.hid hF
  clear hF
  go_enter Tryd.func61, Tryd.ntmps61
  go_wp2_with fail
  refine (HF.out _).mono ?_
  rintro e w1 ⟨rfl, hb⟩
  have HN := Lib.hid ((dn_new w 15 D N M i s).below hb)
  clear hb HF
  obtain ⟨⟨i0, i1, i2, i3, i4⟩, s0, s1, s2, s3, s4, s5, s6, s7, s8, s9, s10, s11, s12⟩ := HN.out.cells
  obtain ⟨n0, n1, n2, n3, n4, n5, n6, n7, n8, n9, n10, n11, n12⟩ := Blk.cells13 HN.out.b3
  have f8 : w1.frozen? ⟨w.heap.size + 1 + 1 + 1, 8, none⟩ = false := HN.out.b3.frozen 8
  go_upto_region 16 with fail
  have HN2 := Lib.hid (HN.out.next (s.to np) (blk_one HN.out.b3 8 (u np) rfl) (upd_set _ _ _ _ (Upd.refl _ _)))
  clear i0 i1 i2 i3 i4 s0 s1 s2 s3 s4 s5 s6 s7 s8 s9 s10 s11 s12 n0 n1 n2 n3 n4 n5 n6 n7 n8 n9 n10 n11 n12 f8 HN
  obtain ⟨s1, hs1⟩ : ∃ s1, s.to np = s1 := ⟨_, rfl⟩
  rw [hs1] at HN2
  have HS1 := Lib.hid hs1
  clear hs1
  generalize w1.setCell ⟨w.heap.size + 1 + 1 + 1, 8, none⟩ (u np) = w2 at *
  have HL0 := Lib.hid (show K32 w.heap.size 15 D N M i s s1 w2 from HN2.out.x.all hD)
  have HL0d := Lib.hid (show K32 w.heap.size 15 D N M i s s1 (w2.drew) from HN2.out.drew.x.all hD)
  have HSD := Lib.hid (show 0 ≤ ((s.r D).toNat : Int) ∧ ((s.r D).toNat : Int) < 4294967296 from ⟨by omega, bd (s.r D)⟩)
  have hD3 : (0 : Int) ≤ (D : Int) := by omega
  obtain ⟨c0, c1, c2, c3, c4, c5, c6, c7, c8, c9, c10, c11, c12, c13, c14, c15, c16, c17, cD, n0', n1, n2, n3, n4, n5, n6, n7, n8, n9, n10, n11, n12⟩ := HN2.out.x.all hD
  go_region_held3 (fun w' => K32 w.heap.size 15 D N M i s s1 w') (first | with_reducible exact HL0.out | with_reducible exact HL0d.out | with_reducible exact HL1.out | with_reducible exact HL2.out | with_reducible exact HL3.out) (first | (go_at_call 76; refine (Mm.store n0 h m _ (ad.toNat : Int) ((s.r D).toNat : Int) HSD.out HP1.out).mono ?_; rintro e w4 ⟨rfl, hp4, hu4⟩; have HP4 := Lib.hid hp4; have HX4 := Lib.hid (HX1.out.upd hu4 HX.out); have HL2 := Lib.hid (show K32 w.heap.size 15 D N M i s s1 w4 from HX4.out.all hD); have HU4 := Lib.hid (HU1.out.trans hu4); clear hp4 hu4; obtain ⟨z0, z1, z2, z3, z4, z5, z6, z7, z8, z9, z10, z11, z12⟩ := Blk.cells13 HX4.out.b2; obtain ⟨f0, f1, f2, f3, f4, f5, f6, f7, f8, f9, f10, f11, f12⟩ := Blk.frozen13 HX4.out.b2; have HB5 := Lib.hid (blk13 HX4.out.b2 s1); have HL3 := Lib.hid (show K32 w.heap.size 15 D N M i s s1 ((put13 w4 (w.heap.size + 1 + 1) s1)) from all3 (HX4.out.b0.upd HB5.out.2 (by omega)) (HX4.out.b1.upd HB5.out.2 (by omega)) (HX4.out.b3.upd HB5.out.2 (by omega)) hD)) | (go_at_call 75; refine (HA.out _).mono ?_; rintro e w3 ⟨rfl, hb⟩; have HN3 := Lib.hid (HN2.out.drew.below hb); have HX1 := Lib.hid HN3.out.x; have HL1 := Lib.hid (show K32 w.heap.size 15 D N M i s s1 w3 from HX1.out.all hD); have HP1 := Lib.hid (HP.out.below HN3.out.low); have HU1 := Lib.hid (Upd.of_below HN3.out.low h.X); clear hb))
  obtain ⟨hB, hU⟩ := HB5.out
  have HF5 := Lib.hid (upd_b HU4.out hU (by omega))
  have HP5 := Lib.hid (HP4.out.upd hU (fun k hk e => by have := HBB.out k hk; omega))
  clear HL0 HL0d HL1 HL2 HL3 HB5 HX4 HX1 HN3 z0 z1 z2 z3 z4 z5 z6 z7 z8 z9 z10 z11 z12 f0 f1 f2 f3 f4 f5 f6 f7 f8 f9 f10 f11 f12 hU
  obtain ⟨w8, hw8⟩ : ∃ w8, put13 w4 (w.heap.size + 1 + 1) s1 = w8 := ⟨_, rfl⟩
  rw [hw8] at hB HF5 HP5
  simp only [put13] at hw8
  rw [hw8]
  clear hw8
  obtain ⟨n0, n1, n2, n3, n4, n5, n6, n7, n8, n9, n10, n11, n12⟩ := Blk.cells13 hB
  go_wp2_with fail
  exact bodyPost_ret (v := .tuple #[sv s1, .int .i64 (storeE m (ad.toNat : Int))]) (by simp [results, Tryd.results61, go_sem, n0, n1, n2, n3, n4, n5, n6, n7, n8, n9, n10, n11, n12]) rfl ⟨by rw [HS1.out], HP5.out, HF5.out⟩
end Go.Proofs.YtkafmpdjpjgkgaaDoor.Co
