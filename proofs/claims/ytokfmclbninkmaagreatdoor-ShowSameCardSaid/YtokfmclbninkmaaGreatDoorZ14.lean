/- DERIVED. ShSt in one text. By an AI agent. -/
import Derived.Test.YtokfmclbninkmaaGreatDoorZ11
/- DERIVED. The writer's inputs, set, function, loop, statement and program. By an AI agent. -/
namespace Go.Proofs.YtokfmclbninkmaaGreatDoor.Wr
open Go Go.ChangeShapes Go.WideShapes Go.ChangeAt Go.RowKit Lx Args Pa Sh
set_option linter.unusedVariables false
set_option linter.unusedSimpArgs false

set_option maxRecDepth 100000 in
set_option maxHeartbeats 2000000 in
theorem inputsW (w0 w : World) (bp : Nat) (acc : Bs) (ahead : Bs) (k a : Int) (s : Bs) (n : Nat) (A : Option Addr) (la cA : Nat) (B : Option Addr) (ps : List Bs) (cB : Nat) (hTB : TabP w0) (hb : Below w0.heap.size w0 w) (h0 : w0.heap.size ≤ bp) (h : IsW bp acc w) (ha : acc.length ≤ 1068576) (hLB : Lies w0 B (ps.map strV)) (hpl : ps.length ≤ maxLen) (hps : ∀ p ∈ ps, p.length ≤ 1048576) (hah : ahead.length ≤ 1048576) :
    Calls Tryz.prog 57 #[.pointer (some ⟨bp, 0, none⟩), .string ⟨ahead.toArray⟩, nzA k a s n A la cA B ps.length cB] w (WrP bp w acc True (ahead ++ naT true ps ++ [59])) := by
  obtain ⟨w1, hw1, hb1, hX1, hW1, hK1, hbx, hsz⟩ := n_box w (nB k a s n A la cA B ps.length cB) h
  obtain ⟨r1, hr1⟩ : ∃ r1, acc = r1 := ⟨_, rfl⟩
  rw [hr1] at hW1 ha ⊢
  have HW := Lib.hid hw1; have HX1 := Lib.hid hX1; have HW1 : Hid (IsW bp r1 w1) := Lib.hid hW1; have HK1 := Lib.hid hK1; have HA1 := Lib.hid ha; have HB := Lib.hid hb; have HTB := Lib.hid hTB; have HSZ := Lib.hid hsz
  clear hsz hw1 hX1 hW1 hK1 ha hb hTB hb1 h hr1 acc
  have HLB := Lib.hid hLB; have HPL := Lib.hid hpl; have HPS := Lib.hid hps; have HAH := Lib.hid hah
  clear hLB hpl hps hah
  obtain ⟨⟨e0, e1, e2, e3, e4, e5⟩, z0, z1, z2, z3, z4, z5⟩ := Blk.c6 HX1.out
  have hxl1 := HX1.out.lt
  go_enter Tryz.func57, Tryz.ntmps57
  go_wp2_with fail
  rw [HW.out]
  have hpu := putN w1 bp [ahead] r1 HW1.out HA1.out (by simpa using HAH.out) (by simp)
  rw [HSZ.out] at hpu
  have HP1 := Lib.hid hpu
  clear hpu
  refine (show Calls Tryz.prog 34 #[.pointer (some ⟨bp, 0, none⟩), .slice (some ⟨w.heap.size + 1, 0, none⟩) 1 1] (w1.alloc (.cells #[.string ⟨ahead.toArray⟩] 9)) (WrP bp w1 r1 True [ahead].flatten) from HP1.out).mono ?_
  rintro e w2 ⟨rfl, r2, h1, h2, h3, h4⟩
  have HW2 : Hid (IsW bp r2 w2) := Lib.hid h1; have HA2 := Lib.hid h2; have HC2 := Lib.hid h3; have HK2 := Lib.hid (HK1.out.trans h4); have HX2 := Lib.hid (h4.blk HX1.out hbx.symm neN)
  clear h1 h2 h3 h4 e0 e1 e2 e3 e4 e5 z0 z1 z2 z3 z4 z5
  obtain ⟨⟨e0, e1, e2, e3, e4, e5⟩, z0, z1, z2, z3, z4, z5⟩ := Blk.c6 HX2.out
  have hxl2 := HX2.out.lt
  have HP2 := Lib.hid (namesW w0 w2 bp B cB ps r2 HLB.out HPL.out HPS.out (low_trans HB.out h0 HK2.out) h0 HW2.out HA2.out)
  go_wp2_with fail
  refine HP2.out.mono ?_
  rintro e w3 ⟨rfl, r3, h1, h2, h3, h4⟩
  have HW3 : Hid (IsW bp r3 w3) := Lib.hid h1; have HA3 := Lib.hid h2; have HC3 := Lib.hid h3; have HK3 := Lib.hid (HK2.out.trans h4); have HX3 := Lib.hid (h4.blk HX2.out hbx.symm neN)
  clear h1 h2 h3 h4 e0 e1 e2 e3 e4 e5 z0 z1 z2 z3 z4 z5
  obtain ⟨⟨e0, e1, e2, e3, e4, e5⟩, z0, z1, z2, z3, z4, z5⟩ := Blk.c6 HX3.out
  have hxl3 := HX3.out.lt
  have HP3 := Lib.hid (putN w3 bp [[59]] r3 HW3.out HA3.out (by simp) (by simp))
  go_wp2_with fail
  refine (show Calls Tryz.prog 34 #[.pointer (some ⟨bp, 0, none⟩), .slice (some ⟨w3.heap.size, 0, none⟩) 1 1] (w3.alloc (.cells #[.string ⟨#[59]⟩] 9)) (WrP bp w3 r3 True [[59]].flatten) from HP3.out).mono ?_
  rintro e w4 ⟨rfl, r4, h1, h2, h3, h4⟩
  have HW4 : Hid (IsW bp r4 w4) := Lib.hid h1; have HA4 := Lib.hid h2; have HC4 := Lib.hid h3; have HK4 := Lib.hid (HK3.out.trans h4); have HX4 := Lib.hid (h4.blk HX3.out hbx.symm neN)
  clear h1 h2 h3 h4 e0 e1 e2 e3 e4 e5 z0 z1 z2 z3 z4 z5
  have HCUT := Lib.hid (show (True) → Cut r1 (ahead ++ naT true ps ++ [59]) r4 from fun hp => Cut.eq (((HC2.out trivial).trans (HC3.out trivial)).trans (HC4.out trivial)) (by simp))
  go_wp2_with fail
  have hfin : WrP bp w r1 (True) (ahead ++ naT true ps ++ [59]) (.returned (.tuple #[])) w4 := ⟨rfl, r4, HW4.out, HA4.out, HCUT.out, HK4.out⟩
  first | go_end0 | skip
  all_goals first | exact hfin | exact bodyPost_ret (results_none rfl _ _ _) rfl hfin
set_option maxRecDepth 100000 in
set_option maxHeartbeats 2000000 in
theorem setW (w0 w : World) (bp : Nat) (acc : Bs) (HF : FmC) (ahead : Bs) (k a : Int) (s : Bs) (n : Nat) (A : Option Addr) (l : List Tz) (cA : Nat) (B : Option Addr) (lb cB : Nat) (css : List (List Value)) (x0 : Tz) (hls0 : ls x0 = true) (hok0 : okz x0) (hTB : TabP w0) (hb : Below w0.heap.size w0 w) (h0 : w0.heap.size ≤ bp) (h : IsW bp acc w) (ha : acc.length ≤ 1068576) (hs : s.length ≤ 1048576) (hL : Lies w0 A css.flatten) (hS : TsIz w0 (x0 :: l) css) (hlm : (x0 :: l).length ≤ 9223372036854775807) (hah : ahead.length ≤ 1048576) :
    Calls Tryz.prog 58 #[.pointer (some ⟨bp, 0, none⟩), .string ⟨ahead.toArray⟩, nzA k a s n A (x0 :: l).length cA B lb cB] w (WrP bp w acc (shE x0) (ahead ++ s ++ [32, 61, 32] ++ exT dec x0 ++ [59])) := by
  obtain ⟨w1, hw1, hb1, hX1, hW1, hK1, hbx, hsz⟩ := n_box w (nB k a s n A (x0 :: l).length cA B lb cB) h
  obtain ⟨r1, hr1⟩ : ∃ r1, acc = r1 := ⟨_, rfl⟩
  rw [hr1] at hW1 ha ⊢
  have HW := Lib.hid hw1; have HX1 := Lib.hid hX1; have HW1 : Hid (IsW bp r1 w1) := Lib.hid hW1; have HK1 := Lib.hid hK1; have HA1 := Lib.hid ha; have HB := Lib.hid hb; have HTB := Lib.hid hTB; have HSZ := Lib.hid hsz
  clear hsz hw1 hX1 hW1 hK1 ha hb hTB hb1 h hr1 acc
  have HT := Lib.hid hs; have HL := Lib.hid hL; have HS := Lib.hid hS; have HAH := Lib.hid hah
  clear hs hL hS hah
  have hm0 : SizeOf.sizeOf x0 < SizeOf.sizeOf x0 + 1 := Nat.lt_succ_self _
  obtain ⟨ln, hln⟩ : ∃ ln, (x0 :: l).length = ln := ⟨_, rfl⟩
  have hl1 : 0 < ln := by rw [← hln]; simp
  rw [hln] at HX1 HW hlm ⊢
  obtain ⟨⟨e0, e1, e2, e3, e4, e5⟩, z0, z1, z2, z3, z4, z5⟩ := Blk.c6 HX1.out
  have hxl1 := HX1.out.lt
  go_enter Tryz.func58, Tryz.ntmps58
  go_wp2_with fail
  rw [HW.out]
  have hpu := putN w1 bp [ahead, s, [32, 61, 32]] r1 HW1.out HA1.out (by intro t ht; simp only [List.mem_cons, List.not_mem_nil, or_false] at ht; rcases ht with h | h | h <;> rw [h] <;> first | exact HT.out | exact HAH.out | simp) (by simp)
  rw [HSZ.out] at hpu
  have HP1 := Lib.hid hpu
  clear hpu
  refine (show Calls Tryz.prog 34 #[.pointer (some ⟨bp, 0, none⟩), .slice (some ⟨w.heap.size + 1, 0, none⟩) 3 3] (w1.alloc (.cells #[.string ⟨ahead.toArray⟩, .string ⟨s.toArray⟩, .string ⟨#[32, 61, 32]⟩] 9)) (WrP bp w1 r1 True [ahead, s, [32, 61, 32]].flatten) from HP1.out).mono ?_
  rintro e w2 ⟨rfl, r2, h1, h2, h3, h4⟩
  have HW2 : Hid (IsW bp r2 w2) := Lib.hid h1; have HA2 := Lib.hid h2; have HC2 := Lib.hid h3; have HK2 := Lib.hid (HK1.out.trans h4); have HX2 := Lib.hid (h4.blk HX1.out hbx.symm neN)
  clear h1 h2 h3 h4 e0 e1 e2 e3 e4 e5 z0 z1 z2 z3 z4 z5
  obtain ⟨⟨e0, e1, e2, e3, e4, e5⟩, z0, z1, z2, z3, z4, z5⟩ := Blk.c6 HX2.out
  have hxl2 := HX2.out.lt
  obtain ⟨b0, o0, k0, a0, s0, n0, A0, la0, cA0, B0, lb0, cB0, hAe0, hT0, hbl0, g0, g1, g2, g3, g4, g5⟩ := partz_b (low_trans HB.out h0 HK2.out) HL.out HS.out (show (x0 :: l)[0]? = some x0 from rfl)
  cases hAe0
  simp only [Nat.zero_mul, Nat.add_zero] at g0 g1 g2 g3 g4 g5
  have HT0 := Lib.hid hT0
  clear hT0
  have HP2 := Lib.hid (exw HF _ x0 hm0 hls0 hok0 w0 w2 bp r2 k0 a0 s0 n0 A0 la0 cA0 B0 lb0 cB0 (tIz_weak HT0.out) HTB.out (low_trans HB.out h0 HK2.out) h0 HW2.out HA2.out)
  go_wp2_with fail
  refine HP2.out.mono ?_
  rintro e w3 ⟨rfl, r3, h1, h2, h3, h4⟩
  have HW3 : Hid (IsW bp r3 w3) := Lib.hid h1; have HA3 := Lib.hid h2; have HC3 := Lib.hid h3; have HK3 := Lib.hid (HK2.out.trans h4); have HX3 := Lib.hid (h4.blk HX2.out hbx.symm neN)
  clear h1 h2 h3 h4 e0 e1 e2 e3 e4 e5 z0 z1 z2 z3 z4 z5 g0 g1 g2 g3 g4 g5
  obtain ⟨⟨e0, e1, e2, e3, e4, e5⟩, z0, z1, z2, z3, z4, z5⟩ := Blk.c6 HX3.out
  have hxl3 := HX3.out.lt
  have HP3 := Lib.hid (putN w3 bp [[59]] r3 HW3.out HA3.out (by simp) (by simp))
  go_wp2_with fail
  refine (show Calls Tryz.prog 34 #[.pointer (some ⟨bp, 0, none⟩), .slice (some ⟨w3.heap.size, 0, none⟩) 1 1] (w3.alloc (.cells #[.string ⟨#[59]⟩] 9)) (WrP bp w3 r3 True [[59]].flatten) from HP3.out).mono ?_
  rintro e w4 ⟨rfl, r4, h1, h2, h3, h4⟩
  have HW4 : Hid (IsW bp r4 w4) := Lib.hid h1; have HA4 := Lib.hid h2; have HC4 := Lib.hid h3; have HK4 := Lib.hid (HK3.out.trans h4); have HX4 := Lib.hid (h4.blk HX3.out hbx.symm neN)
  clear h1 h2 h3 h4 e0 e1 e2 e3 e4 e5 z0 z1 z2 z3 z4 z5
  have HCUT := Lib.hid (show (shE x0) → Cut r1 (ahead ++ s ++ [32, 61, 32] ++ exT dec x0 ++ [59]) r4 from fun hp => Cut.eq (((HC2.out trivial).trans (HC3.out hp)).trans (HC4.out trivial)) (by simp))
  go_wp2_with fail
  have hfin : WrP bp w r1 (shE x0) (ahead ++ s ++ [32, 61, 32] ++ exT dec x0 ++ [59]) (.returned (.tuple #[])) w4 := ⟨rfl, r4, HW4.out, HA4.out, HCUT.out, HK4.out⟩
  first | go_end0 | skip
  all_goals first | exact hfin | exact bodyPost_ret (results_none rfl _ _ _) rfl hfin
set_option maxRecDepth 100000 in
set_option maxHeartbeats 2000000 in
theorem functionW (w0 w : World) (bp : Nat) (acc : Bs) (HF : FmC) (k a : Int) (s : Bs) (n : Nat) (A : Option Addr) (l : List Tz) (cA : Nat) (B : Option Addr) (ps : List Bs) (cB : Nat) (css : List (List Value)) (x0 : Tz) (hls0 : ls x0 = true) (hok0 : okz x0) (hTB : TabP w0) (hb : Below w0.heap.size w0 w) (h0 : w0.heap.size ≤ bp) (h : IsW bp acc w) (ha : acc.length ≤ 1068576) (hLB : Lies w0 B (ps.map strV)) (hpl : ps.length ≤ maxLen) (hps : ∀ p ∈ ps, p.length ≤ 1048576) (hs : s.length ≤ 1048576) (hL : Lies w0 A css.flatten) (hS : TsIz w0 (x0 :: l) css) (hlm : (x0 :: l).length ≤ 9223372036854775807) :
    Calls Tryz.prog 59 #[.pointer (some ⟨bp, 0, none⟩), nzA k a s n A (x0 :: l).length cA B ps.length cB] w (WrP bp w acc (shE x0) ([102, 110, 32] ++ s ++ [40] ++ naT true ps ++ [41, 32, 61, 32] ++ exT dec x0 ++ [59])) := by
  obtain ⟨w1, hw1, hb1, hX1, hW1, hK1, hbx, hsz⟩ := n_box w (nB k a s n A (x0 :: l).length cA B ps.length cB) h
  obtain ⟨r1, hr1⟩ : ∃ r1, acc = r1 := ⟨_, rfl⟩
  rw [hr1] at hW1 ha ⊢
  have HW := Lib.hid hw1; have HX1 := Lib.hid hX1; have HW1 : Hid (IsW bp r1 w1) := Lib.hid hW1; have HK1 := Lib.hid hK1; have HA1 := Lib.hid ha; have HB := Lib.hid hb; have HTB := Lib.hid hTB; have HSZ := Lib.hid hsz
  clear hsz hw1 hX1 hW1 hK1 ha hb hTB hb1 h hr1 acc
  have HT := Lib.hid hs; have HL := Lib.hid hL; have HS := Lib.hid hS; have HLB := Lib.hid hLB; have HPL := Lib.hid hpl; have HPS := Lib.hid hps
  clear hs hL hS hLB hpl hps
  have hm0 : SizeOf.sizeOf x0 < SizeOf.sizeOf x0 + 1 := Nat.lt_succ_self _
  obtain ⟨ln, hln⟩ : ∃ ln, (x0 :: l).length = ln := ⟨_, rfl⟩
  have hl1 : 0 < ln := by rw [← hln]; simp
  rw [hln] at HX1 HW hlm ⊢
  obtain ⟨⟨e0, e1, e2, e3, e4, e5⟩, z0, z1, z2, z3, z4, z5⟩ := Blk.c6 HX1.out
  have hxl1 := HX1.out.lt
  go_enter Tryz.func59, Tryz.ntmps59
  go_wp2_with fail
  rw [HW.out]
  have hpu := putN w1 bp [[102, 110, 32], s, [40]] r1 HW1.out HA1.out (by intro t ht; simp only [List.mem_cons, List.not_mem_nil, or_false] at ht; rcases ht with h | h | h <;> rw [h] <;> first | exact HT.out | simp) (by simp)
  rw [HSZ.out] at hpu
  have HP1 := Lib.hid hpu
  clear hpu
  refine (show Calls Tryz.prog 34 #[.pointer (some ⟨bp, 0, none⟩), .slice (some ⟨w.heap.size + 1, 0, none⟩) 3 3] (w1.alloc (.cells #[.string ⟨#[102, 110, 32]⟩, .string ⟨s.toArray⟩, .string ⟨#[40]⟩] 9)) (WrP bp w1 r1 True [[102, 110, 32], s, [40]].flatten) from HP1.out).mono ?_
  rintro e w2 ⟨rfl, r2, h1, h2, h3, h4⟩
  have HW2 : Hid (IsW bp r2 w2) := Lib.hid h1; have HA2 := Lib.hid h2; have HC2 := Lib.hid h3; have HK2 := Lib.hid (HK1.out.trans h4); have HX2 := Lib.hid (h4.blk HX1.out hbx.symm neN)
  clear h1 h2 h3 h4 e0 e1 e2 e3 e4 e5 z0 z1 z2 z3 z4 z5
  obtain ⟨⟨e0, e1, e2, e3, e4, e5⟩, z0, z1, z2, z3, z4, z5⟩ := Blk.c6 HX2.out
  have hxl2 := HX2.out.lt
  have HP2 := Lib.hid (namesW w0 w2 bp B cB ps r2 HLB.out HPL.out HPS.out (low_trans HB.out h0 HK2.out) h0 HW2.out HA2.out)
  go_wp2_with fail
  refine HP2.out.mono ?_
  rintro e w3 ⟨rfl, r3, h1, h2, h3, h4⟩
  have HW3 : Hid (IsW bp r3 w3) := Lib.hid h1; have HA3 := Lib.hid h2; have HC3 := Lib.hid h3; have HK3 := Lib.hid (HK2.out.trans h4); have HX3 := Lib.hid (h4.blk HX2.out hbx.symm neN)
  clear h1 h2 h3 h4 e0 e1 e2 e3 e4 e5 z0 z1 z2 z3 z4 z5
  obtain ⟨⟨e0, e1, e2, e3, e4, e5⟩, z0, z1, z2, z3, z4, z5⟩ := Blk.c6 HX3.out
  have hxl3 := HX3.out.lt
  have HP3 := Lib.hid (putN w3 bp [[41, 32, 61, 32]] r3 HW3.out HA3.out (by simp) (by simp))
  go_wp2_with fail
  refine (show Calls Tryz.prog 34 #[.pointer (some ⟨bp, 0, none⟩), .slice (some ⟨w3.heap.size, 0, none⟩) 1 1] (w3.alloc (.cells #[.string ⟨#[41, 32, 61, 32]⟩] 9)) (WrP bp w3 r3 True [[41, 32, 61, 32]].flatten) from HP3.out).mono ?_
  rintro e w4 ⟨rfl, r4, h1, h2, h3, h4⟩
  have HW4 : Hid (IsW bp r4 w4) := Lib.hid h1; have HA4 := Lib.hid h2; have HC4 := Lib.hid h3; have HK4 := Lib.hid (HK3.out.trans h4); have HX4 := Lib.hid (h4.blk HX3.out hbx.symm neN)
  clear h1 h2 h3 h4 e0 e1 e2 e3 e4 e5 z0 z1 z2 z3 z4 z5
  obtain ⟨⟨e0, e1, e2, e3, e4, e5⟩, z0, z1, z2, z3, z4, z5⟩ := Blk.c6 HX4.out
  have hxl4 := HX4.out.lt
  obtain ⟨b0, o0, k0, a0, s0, n0, A0, la0, cA0, B0, lb0, cB0, hAe0, hT0, hbl0, g0, g1, g2, g3, g4, g5⟩ := partz_b (low_trans HB.out h0 HK4.out) HL.out HS.out (show (x0 :: l)[0]? = some x0 from rfl)
  cases hAe0
  simp only [Nat.zero_mul, Nat.add_zero] at g0 g1 g2 g3 g4 g5
  have HT0 := Lib.hid hT0
  clear hT0
  have HP4 := Lib.hid (exw HF _ x0 hm0 hls0 hok0 w0 w4 bp r4 k0 a0 s0 n0 A0 la0 cA0 B0 lb0 cB0 (tIz_weak HT0.out) HTB.out (low_trans HB.out h0 HK4.out) h0 HW4.out HA4.out)
  go_wp2_with fail
  refine HP4.out.mono ?_
  rintro e w5 ⟨rfl, r5, h1, h2, h3, h4⟩
  have HW5 : Hid (IsW bp r5 w5) := Lib.hid h1; have HA5 := Lib.hid h2; have HC5 := Lib.hid h3; have HK5 := Lib.hid (HK4.out.trans h4); have HX5 := Lib.hid (h4.blk HX4.out hbx.symm neN)
  clear h1 h2 h3 h4 e0 e1 e2 e3 e4 e5 z0 z1 z2 z3 z4 z5 g0 g1 g2 g3 g4 g5
  obtain ⟨⟨e0, e1, e2, e3, e4, e5⟩, z0, z1, z2, z3, z4, z5⟩ := Blk.c6 HX5.out
  have hxl5 := HX5.out.lt
  have HP5 := Lib.hid (putN w5 bp [[59]] r5 HW5.out HA5.out (by simp) (by simp))
  go_wp2_with fail
  refine (show Calls Tryz.prog 34 #[.pointer (some ⟨bp, 0, none⟩), .slice (some ⟨w5.heap.size, 0, none⟩) 1 1] (w5.alloc (.cells #[.string ⟨#[59]⟩] 9)) (WrP bp w5 r5 True [[59]].flatten) from HP5.out).mono ?_
  rintro e w6 ⟨rfl, r6, h1, h2, h3, h4⟩
  have HW6 : Hid (IsW bp r6 w6) := Lib.hid h1; have HA6 := Lib.hid h2; have HC6 := Lib.hid h3; have HK6 := Lib.hid (HK5.out.trans h4); have HX6 := Lib.hid (h4.blk HX5.out hbx.symm neN)
  clear h1 h2 h3 h4 e0 e1 e2 e3 e4 e5 z0 z1 z2 z3 z4 z5
  have HCUT := Lib.hid (show (shE x0) → Cut r1 ([102, 110, 32] ++ s ++ [40] ++ naT true ps ++ [41, 32, 61, 32] ++ exT dec x0 ++ [59]) r6 from fun hp => Cut.eq (((((HC2.out trivial).trans (HC3.out trivial)).trans (HC4.out trivial)).trans (HC5.out hp)).trans (HC6.out trivial)) (by simp))
  go_wp2_with fail
  have hfin : WrP bp w r1 (shE x0) ([102, 110, 32] ++ s ++ [40] ++ naT true ps ++ [41, 32, 61, 32] ++ exT dec x0 ++ [59]) (.returned (.tuple #[])) w6 := ⟨rfl, r6, HW6.out, HA6.out, HCUT.out, HK6.out⟩
  first | go_end0 | skip
  all_goals first | exact hfin | exact bodyPost_ret (results_none rfl _ _ _) rfl hfin
/-- statement, of trees smaller than m. -/
def StW (m : Nat) : Prop := ∀ (z : Tz), SizeOf.sizeOf z < m → ls z = true → okz z → ∀ (w0 w : World) (bp : Nat) (acc : Bs) (k a : Int) (s : Bs) (n : Nat) (A : Option Addr) (la cA : Nat) (B : Option Addr) (lb cB : Nat), TIc True w0 z (nzC k a s n A la cA B lb cB) →
  TabP w0 → Below w0.heap.size w0 w → w0.heap.size ≤ bp → IsW bp acc w → acc.length ≤ 1068576 →
  Calls Tryz.prog 33 #[.pointer (some ⟨bp, 0, none⟩), nzA k a s n A la cA B lb cB] w (WrP bp w acc (shS z) (stT dec z))
theorem foT_nil (d : Nat → Bs) (i : Nat) : foT d i [] = [] := by unfold foT; rfl
theorem foT_0 (d : Nat → Bs) (x : Tz) (l : List Tz) : foT d 0 (x :: l) = [32] ++ stT d x ++ foT d 0 l := by conv => lhs; unfold foT
theorem foT_1 (d : Nat → Bs) (x : Tz) (l : List Tz) : foT d 1 (x :: l) = exT d x ++ [32, 123] ++ foT d 0 l := by conv => lhs; unfold foT
theorem foT_2 (d : Nat → Bs) (x : Tz) (l : List Tz) : foT d 2 (x :: l) = exT d x ++ [32, 46, 46, 32] ++ foT d 1 l := by conv => lhs; unfold foT
theorem shA_at : ∀ {l : List Tz}, shA 0 l → ∀ {i : Nat} {x : Tz}, l[i]? = some x → shS x
  | [], _, i, x, h => by simp at h
  | y :: l, h, 0, x, hx => by
    have : y = x := by simpa using hx
    subst this
    unfold shA at h
    exact h.1
  | y :: l, h, i + 1, x, hx => by
    unfold shA at h
    exact shA_at h.2 (by simpa using hx)
set_option maxRecDepth 100000 in
set_option maxHeartbeats 2000000 in
theorem loopW (w0 w : World) (bp : Nat) (acc : Bs) (HF : FmC) {m : Nat} (H : StW m) (k a : Int) (s : Bs) (n : Nat) (A : Option Addr) (l : List Tz) (cA : Nat) (B : Option Addr) (lb cB : Nat) (css : List (List Value)) (x0 : Tz) (hls0 : ls x0 = true) (hok0 : okz x0) (x1 : Tz) (hls1 : ls x1 = true) (hok1 : okz x1) (hTB : TabP w0) (hb : Below w0.heap.size w0 w) (h0 : w0.heap.size ≤ bp) (h : IsW bp acc w) (ha : acc.length ≤ 1068576) (hs : s.length ≤ 1048576) (hL : Lies w0 A css.flatten) (hS : TsIc True w0 (x0 :: x1 :: l) css) (hlm : (x0 :: x1 :: l).length ≤ 9223372036854775807) (hcap : (x0 :: x1 :: l).length ≤ cA) (hcm : cA ≤ 9223372036854775807) (hm : ∀ (i : Nat) (x : Tz), l[i]? = some x → SizeOf.sizeOf x < m) (hls : lss l = true) (hok : okzs l) :
    Calls Tryz.prog 60 #[.pointer (some ⟨bp, 0, none⟩), nzA k a s n A (x0 :: x1 :: l).length cA B lb cB] w (WrP bp w acc (shE x0 ∧ shE x1 ∧ shA 0 l) ([102, 111, 114, 32] ++ s ++ [32, 105, 110, 32] ++ (exT dec x0 ++ [32, 46, 46, 32] ++ (exT dec x1 ++ [32, 123] ++ foT dec 0 l)) ++ [32, 125])) := by
  obtain ⟨w1, hw1, hb1, hX1, hW1, hK1, hbx, hsz⟩ := n_box w (nB k a s n A (x0 :: x1 :: l).length cA B lb cB) h
  obtain ⟨r1, hr1⟩ : ∃ r1, acc = r1 := ⟨_, rfl⟩
  rw [hr1] at hW1 ha ⊢
  have HW := Lib.hid hw1; have HX1 := Lib.hid hX1; have HW1 : Hid (IsW bp r1 w1) := Lib.hid hW1; have HK1 := Lib.hid hK1; have HA1 := Lib.hid ha; have HB := Lib.hid hb; have HTB := Lib.hid hTB; have HSZ := Lib.hid hsz
  clear hsz hw1 hX1 hW1 hK1 ha hb hTB hb1 h hr1 acc
  have HT := Lib.hid hs; have HL := Lib.hid hL; have HS := Lib.hid hS; have HM := Lib.hid hm; have HLS := Lib.hid hls; have HOK := Lib.hid hok
  clear hs hL hS hm hls hok
  have hm0 : SizeOf.sizeOf x0 < SizeOf.sizeOf x0 + 1 := Nat.lt_succ_self _
  have hm1 : SizeOf.sizeOf x1 < SizeOf.sizeOf x1 + 1 := Nat.lt_succ_self _
  obtain ⟨ln, hln⟩ : ∃ ln, (x0 :: x1 :: l).length = ln := ⟨_, rfl⟩
  have hl1 : 1 < ln := by rw [← hln]; simp
  have hl0 : 0 < ln := by omega
  have hll : ln = l.length + 2 := by rw [← hln]; simp
  rw [hln] at HX1 HW hlm hcap ⊢
  clear hln
  have HLL := Lib.hid hll
  clear hll
  obtain ⟨⟨e0, e1, e2, e3, e4, e5⟩, z0, z1, z2, z3, z4, z5⟩ := Blk.c6 HX1.out
  have hxl1 := HX1.out.lt
  go_enter Tryz.func60, Tryz.ntmps60
  go_wp2_with fail
  rw [HW.out]
  have hpu := putN w1 bp [[102, 111, 114, 32], s, [32, 105, 110, 32]] r1 HW1.out HA1.out (by intro t ht; simp only [List.mem_cons, List.not_mem_nil, or_false] at ht; rcases ht with h | h | h <;> rw [h] <;> first | exact HT.out | simp) (by simp)
  rw [HSZ.out] at hpu
  have HP1 := Lib.hid hpu
  clear hpu
  refine (show Calls Tryz.prog 34 #[.pointer (some ⟨bp, 0, none⟩), .slice (some ⟨w.heap.size + 1, 0, none⟩) 3 3] (w1.alloc (.cells #[.string ⟨#[102, 111, 114, 32]⟩, .string ⟨s.toArray⟩, .string ⟨#[32, 105, 110, 32]⟩] 9)) (WrP bp w1 r1 True [[102, 111, 114, 32], s, [32, 105, 110, 32]].flatten) from HP1.out).mono ?_
  rintro e w2 ⟨rfl, r2, h1, h2, h3, h4⟩
  have HW2 : Hid (IsW bp r2 w2) := Lib.hid h1; have HA2 := Lib.hid h2; have HC2 := Lib.hid h3; have HK2 := Lib.hid (HK1.out.trans h4); have HX2 := Lib.hid (h4.blk HX1.out hbx.symm neN)
  clear h1 h2 h3 h4 e0 e1 e2 e3 e4 e5 z0 z1 z2 z3 z4 z5
  obtain ⟨⟨e0, e1, e2, e3, e4, e5⟩, z0, z1, z2, z3, z4, z5⟩ := Blk.c6 HX2.out
  have hxl2 := HX2.out.lt
  obtain ⟨b0, o0, k0, a0, s0, n0, A0, la0, cA0, B0, lb0, cB0, hAe0, hT0, hbl0, g0, g1, g2, g3, g4, g5⟩ := partz_b (low_trans HB.out h0 HK2.out) HL.out HS.out (show (x0 :: x1 :: l)[0]? = some x0 from rfl)
  cases hAe0
  simp only [Nat.zero_mul, Nat.add_zero] at g0 g1 g2 g3 g4 g5
  have HT0 := Lib.hid hT0
  clear hT0
  have HP2 := Lib.hid (exw HF _ x0 hm0 hls0 hok0 w0 w2 bp r2 k0 a0 s0 n0 A0 la0 cA0 B0 lb0 cB0 (tIz_weak HT0.out) HTB.out (low_trans HB.out h0 HK2.out) h0 HW2.out HA2.out)
  go_wp2_with fail
  refine HP2.out.mono ?_
  rintro e w3 ⟨rfl, r3, h1, h2, h3, h4⟩
  have HW3 : Hid (IsW bp r3 w3) := Lib.hid h1; have HA3 := Lib.hid h2; have HC3 := Lib.hid h3; have HK3 := Lib.hid (HK2.out.trans h4); have HX3 := Lib.hid (h4.blk HX2.out hbx.symm neN)
  clear h1 h2 h3 h4 e0 e1 e2 e3 e4 e5 z0 z1 z2 z3 z4 z5 g0 g1 g2 g3 g4 g5
  obtain ⟨⟨e0, e1, e2, e3, e4, e5⟩, z0, z1, z2, z3, z4, z5⟩ := Blk.c6 HX3.out
  have hxl3 := HX3.out.lt
  have HP3 := Lib.hid (putN w3 bp [[32, 46, 46, 32]] r3 HW3.out HA3.out (by simp) (by simp))
  go_wp2_with fail
  refine (show Calls Tryz.prog 34 #[.pointer (some ⟨bp, 0, none⟩), .slice (some ⟨w3.heap.size, 0, none⟩) 1 1] (w3.alloc (.cells #[.string ⟨#[32, 46, 46, 32]⟩] 9)) (WrP bp w3 r3 True [[32, 46, 46, 32]].flatten) from HP3.out).mono ?_
  rintro e w4 ⟨rfl, r4, h1, h2, h3, h4⟩
  have HW4 : Hid (IsW bp r4 w4) := Lib.hid h1; have HA4 := Lib.hid h2; have HC4 := Lib.hid h3; have HK4 := Lib.hid (HK3.out.trans h4); have HX4 := Lib.hid (h4.blk HX3.out hbx.symm neN)
  clear h1 h2 h3 h4 e0 e1 e2 e3 e4 e5 z0 z1 z2 z3 z4 z5
  obtain ⟨⟨e0, e1, e2, e3, e4, e5⟩, z0, z1, z2, z3, z4, z5⟩ := Blk.c6 HX4.out
  have hxl4 := HX4.out.lt
  obtain ⟨b1, o1, k1, a1, s1, n1, A1, la1, cA1, B1, lb1, cB1, hAe1, hT1, hbl1, g0, g1, g2, g3, g4, g5⟩ := partz_b (low_trans HB.out h0 HK4.out) HL.out HS.out (show (x0 :: x1 :: l)[1]? = some x1 from rfl)
  cases hAe1
  simp only [Nat.one_mul] at g0 g1 g2 g3 g4 g5
  have HT1 := Lib.hid hT1
  clear hT1
  have HP4 := Lib.hid (exw HF _ x1 hm1 hls1 hok1 w0 w4 bp r4 k1 a1 s1 n1 A1 la1 cA1 B1 lb1 cB1 (tIz_weak HT1.out) HTB.out (low_trans HB.out h0 HK4.out) h0 HW4.out HA4.out)
  go_wp2_with fail
  refine HP4.out.mono ?_
  rintro e w5 ⟨rfl, r5, h1, h2, h3, h4⟩
  have HW5 : Hid (IsW bp r5 w5) := Lib.hid h1; have HA5 := Lib.hid h2; have HC5 := Lib.hid h3; have HK5 := Lib.hid (HK4.out.trans h4); have HX5 := Lib.hid (h4.blk HX4.out hbx.symm neN)
  clear h1 h2 h3 h4 e0 e1 e2 e3 e4 e5 z0 z1 z2 z3 z4 z5 g0 g1 g2 g3 g4 g5
  obtain ⟨⟨e0, e1, e2, e3, e4, e5⟩, z0, z1, z2, z3, z4, z5⟩ := Blk.c6 HX5.out
  have hxl5 := HX5.out.lt
  have HP5 := Lib.hid (putN w5 bp [[32, 123]] r5 HW5.out HA5.out (by simp) (by simp))
  go_wp2_with fail
  refine (show Calls Tryz.prog 34 #[.pointer (some ⟨bp, 0, none⟩), .slice (some ⟨w5.heap.size, 0, none⟩) 1 1] (w5.alloc (.cells #[.string ⟨#[32, 123]⟩] 9)) (WrP bp w5 r5 True [[32, 123]].flatten) from HP5.out).mono ?_
  rintro e w6 ⟨rfl, r6, h1, h2, h3, h4⟩
  have HW6 : Hid (IsW bp r6 w6) := Lib.hid h1; have HA6 := Lib.hid h2; have HC6 := Lib.hid h3; have HK6 := Lib.hid (HK5.out.trans h4); have HX6 := Lib.hid (h4.blk HX5.out hbx.symm neN)
  clear h1 h2 h3 h4 e0 e1 e2 e3 e4 e5 z0 z1 z2 z3 z4 z5
  have HC0 := Lib.hid (fun hp : shE x0 ∧ shE x1 ∧ shA 0 l => ((((HC2.out trivial).trans (HC3.out hp.1)).trans (HC4.out trivial)).trans (HC5.out hp.2.1)).trans (HC6.out trivial))
  obtain ⟨⟨e0, e1, e2, e3, e4, e5⟩, z0, z1, z2, z3, z4, z5⟩ := Blk.c6 HX6.out
  have hxl6 := HX6.out.lt
  obtain ⟨tot, htot⟩ : ∃ tot, [102, 111, 114, 32] ++ s ++ [32, 105, 110, 32] ++ (exT dec x0 ++ [32, 46, 46, 32] ++ (exT dec x1 ++ [32, 123] ++ foT dec 0 l)) = tot := ⟨_, rfl⟩
  have hst : shE x0 ∧ shE x1 ∧ shA 0 l → ∀ r, Cut r6 (foT dec 0 l) r → Cut r1 tot r := fun hp r hr => by
    have := (HC0.out hp).trans hr
    rw [← htot]
    simpa using this
  have HST := Lib.hid hst; have HTOT := Lib.hid htot
  have hsl : ∀ W, (Instr.slice 23 (.slice (some ⟨b0, o0, none⟩) ln cA) (some (.int .i64 2)) none none).run Tryz.prog W = .ok (.slice (some ⟨b0, if cA = 2 then o0 else o0 + 12, none⟩) (ln - 2) (cA - 2)) W := fun W => by
    rw [run_slice_l W 23 _ ln cA (by kernel_rfl) .i64 2 (by omega) (by omega)]
    go_simp
    by_cases hc : cA = 2
    · simp [hc]
    · simp [hc]
  obtain ⟨oo, hoo⟩ : ∃ oo, (if cA = 2 then o0 else o0 + 12) = oo := ⟨_, rfl⟩
  rw [hoo] at hsl
  have hoo2 : ∀ i : Nat, i < l.length → oo = o0 + 12 := fun i hi => by
    have := HLL.out
    rw [← hoo, if_neg (by omega)]
  have hl2 : ln - 2 = l.length := by have := HLL.out; omega
  rw [hl2] at hsl
  have hsl2 : ∀ W, (Instr.sliceAt 23 (.slice (some ⟨b0, o0, none⟩) ln cA) (some (.int .i64 2)) none none).run Tryz.prog W = .ok (.slice (some ⟨b0, oo, none⟩) l.length (cA - 2)) W := fun W => by
    rw [run_sliceAt_slice W 23 _ _ _ _ (by kernel_rfl)]
    exact hsl W
  have hlm3 : l.length ≤ 9223372036854775807 := by have := HLL.out; omega
  have HOO := Lib.hid hoo2
  clear HC2 HC3 HC4 HC5 HC6 HC0 hst htot hoo hoo2 hl2
  go_wp2_with fail
  go_loopw [33] (fun vi wr => ∃ (i : Nat) (ac : Bs), i ≤ l.length ∧ vi = .int .i64 (i : Int) ∧ Hid (IsW bp ac wr) ∧ Hid (ac.length ≤ 1068576) ∧ Hid (Kept bp w wr) ∧ Hid (shE x0 ∧ shE x1 ∧ shA 0 l → ∀ r, Cut ac (foT dec 0 (l.drop i)) r → Cut r1 tot r)) (fun vi _ => l.length - (intOf vi).toNat)
  case atStart => exact ⟨0, r6, by omega, rfl, HW6, HA6, HK6, HST⟩
  case round =>
    clear e0 e1 e2 e3 e4 e5 z0 z1 z2 z3 z4 z5
    obtain ⟨i, ac, hi, rfl, HWr, HAr, HKr, HQ⟩ := hrel
    by_cases hlt : i < l.length
    · obtain ⟨x, hx⟩ : ∃ x, l[i]? = some x := ⟨_, List.getElem?_eq_getElem hlt⟩
      have hx2 : (x0 :: x1 :: l)[i + 2]? = some x := by simpa using hx
      obtain ⟨b2, o2, k3, a3, s3, n3, A3, la3, cA3, B3, lb3, cB3, hAe, hTx, hb3, e0, e1, e2, e3, e4, e5⟩ := partz_b (low_trans HB.out h0 HKr.out) HL.out HS.out hx2
      cases hAe
      have hof : o0 + (i + 2) * 6 = oo + i * 6 := by rw [HOO.out i hlt]; omega
      rw [hof] at e0 e1 e2 e3 e4 e5
      have hq := HQ.out
      rw [drop_at hx, foT_0] at hq
      obtain ⟨wn, hwn⟩ : ∃ wn, wr.alloc (.cells (nB k3 a3 s3 n3 A3 la3 cA3 B3 lb3 cB3) 26) = wn := ⟨_, rfl⟩
      have hbn : Below wr.heap.size wr wn := by rw [← hwn]; exact (Below.refl _ _).alloc (Nat.le_refl _) _
      have hXn : Blk wn wr.heap.size 26 (nB k3 a3 s3 n3 A3 la3 cA3 B3 lb3 cB3) := by rw [← hwn]; exact Blk.new _ _ _
      have hsn : wn.heap.size = wr.heap.size + 1 := by rw [← hwn]; simp
      have hlr := HWr.out.lt
      have HKN := Lib.hid (HKr.out.trans (kept_below hbn hlr)); have HWN : Hid (IsW bp ac wn) := Lib.hid (isW_below HWr.out hbn); have HXN := Lib.hid hXn; have HN := Lib.hid hwn
      have hpu := putN wn bp [[32]] ac HWN.out HAr.out (by simp) (by simp)
      rw [hsn] at hpu
      have HPU := Lib.hid hpu
      have HC := Lib.hid fun (wb : World) (ab : Bs) (hbb : Below w0.heap.size w0 wb) (hw : IsW bp ab wb) (hl2 : ab.length ≤ 1068576) => H x (HM.out i x hx) (lss_at HLS.out hx) (okzs_at HOK.out hx) w0 wb bp ab k3 a3 s3 n3 A3 la3 cA3 B3 lb3 cB3 hTx HTB.out hbb h0 hw hl2
      have HSX := Lib.hid (fun hs : shA 0 l => shA_at hs hx)
      have HQ2 := Lib.hid hq
      clear hpu hTx hx hx2 HQ hbn hXn hwn hsn hq hof
      go_wp2_with fail
      rw [HN.out]
      refine (show Calls Tryz.prog 34 #[.pointer (some ⟨bp, 0, none⟩), .slice (some ⟨wr.heap.size + 1, 0, none⟩) 1 1] (wn.alloc (.cells #[.string ⟨#[32]⟩] 9)) (WrP bp wn ac True [[32]].flatten) from HPU.out).mono ?_
      rintro e w2 ⟨rfl, r, h1, h2, h3, h4⟩
      have hx2 := h4.blk HXN.out (by omega) neN
      clear e0 e1 e2 e3 e4 e5
      obtain ⟨⟨e0, e1, e2, e3, e4, e5⟩, z0, z1, z2, z3, z4, z5⟩ := Blk.c6 hx2
      have hxl2 := hx2.lt
      have HS1 := Lib.hid (HC.out w2 r (low_trans HB.out h0 (HKN.out.trans h4)) h1 h2)
      have H3 := Lib.hid h3; have H4 := Lib.hid (HKN.out.trans h4)
      clear h1 h2 h3 h4 hx2 HC HPU
      go_wp2_with fail
      refine HS1.out.mono ?_
      rintro e w3 ⟨rfl, r2, h1, h2, h3, h4⟩
      have H1 := Lib.hid h1; have H2 := Lib.hid h2; have H5 := Lib.hid h3; have H6 := Lib.hid (H4.out.trans h4)
      clear h1 h2 h3 h4
      go_wp2_with fail
      go_roundw
      case rel => exact ⟨i + 1, r2, by omega, by go_num, H1, H2, H6, Lib.hid fun hs r' hr => HQ2.out hs r' ((((H3.out trivial).eq (by simp)).trans (H5.out (HSX.out hs.2.2))).trans hr)⟩
      case measure => simp [intOf]; omega
    · obtain rfl : i = l.length := by omega
      have hq := HQ.out
      rw [List.drop_length, foT_nil] at hq
      have HQ2 := Lib.hid fun hs => hq hs ac (Cut.nil ac)
      have HPU := Lib.hid (putN wr bp [[32, 125]] ac HWr.out HAr.out (by simp) (by simp))
      clear hq
      go_wp2_with fail
      refine (show Calls Tryz.prog 34 #[.pointer (some ⟨bp, 0, none⟩), .slice (some ⟨wr.heap.size, 0, none⟩) 1 1] (wr.alloc (.cells #[.string ⟨#[32, 125]⟩] 9)) (WrP bp wr ac True [[32, 125]].flatten) from HPU.out).mono ?_
      rintro e w2 ⟨rfl, r, h1, h2, h3, h4⟩
      have hfin : WrP bp w r1 (shE x0 ∧ shE x1 ∧ shA 0 l) (tot ++ [32, 125]) (.returned (.tuple #[])) w2 := ⟨rfl, r, h1, h2, fun hs => (HQ2.out hs).trans ((h3 trivial).eq (by simp)), HKr.out.trans h4⟩
      rw [← HTOT.out] at hfin
      have HFIN := Lib.hid hfin
      clear hfin h1 h2 h3 h4
      go_wp2_with fail
      first | go_end0 | skip
      all_goals first | exact HFIN.out | exact bodyPost_ret (results_none rfl _ _ _) rfl HFIN.out
set_option maxRecDepth 100000 in
set_option maxHeartbeats 2000000 in
theorem st_no (w : World) (bp : Nat) (acc : Bs) (k a : Int) (s : Bs) (n : Nat) (A : Option Addr) (la cA : Nat) (B : Option Addr) (lb cB : Nat) (h : IsW bp acc w) (ha : acc.length ≤ 1068576) (h6 : k ≠ 6) (h7 : k ≠ 7) (h8 : k ≠ 8) (h9 : k ≠ 9) (h10 : k ≠ 10) (h11 : k ≠ 11) (h12 : k ≠ 12) :
    Calls Tryz.prog 33 #[.pointer (some ⟨bp, 0, none⟩), nzA k a s n A la cA B lb cB] w (WrP bp w acc False []) := by
  obtain ⟨w1, hw1, hb1, hX1, hW1, hK1, hbx, hsz⟩ := n_box w (nB k a s n A la cA B lb cB) h
  obtain ⟨⟨e0, e1, e2, e3, e4, e5⟩, z0, z1, z2, z3, z4, z5⟩ := Blk.c6 hX1
  have hfin : WrP bp w acc False [] (.returned (.tuple #[])) w1 := ⟨rfl, acc, hW1, ha, fun hp => hp.elim, hK1⟩
  have HFIN := Lib.hid hfin; have HW := Lib.hid hw1
  have q6 : (k == 6) = false := by simpa using h6
  have q7 : (k == 7) = false := by simpa using h7
  have q8 : (k == 8) = false := by simpa using h8
  have q9 : (k == 9) = false := by simpa using h9
  have q10 : (k == 10) = false := by simpa using h10
  have q11 : (k == 11) = false := by simpa using h11
  have q12 : (k == 12) = false := by simpa using h12
  clear hfin hw1 h6 h7 h8 h9 h10 h11 h12 hX1 hW1 hK1 h ha hb1 hsz
  go_enter Tryz.func33, Tryz.ntmps33
  go_wp2_with fail
  rw [HW.out]
  first | go_end0 | skip
  all_goals first | exact HFIN.out | exact bodyPost_ret (results_none rfl _ _ _) rfl HFIN.out
set_option maxRecDepth 100000 in
set_option maxHeartbeats 2000000 in
theorem st_6 (w : World) (bp : Nat) (acc : Bs) (a : Int) (s : Bs) (n : Nat) (A : Option Addr) (la cA : Nat) (B : Option Addr) (lb cB : Nat) (P : Prop) (t : Bs) (h : IsW bp acc w) (ha : acc.length ≤ 1068576)
    (HC : ∀ w1, Below w.heap.size w w1 → IsW bp acc w1 → Calls Tryz.prog 57 #[.pointer (some ⟨bp, 0, none⟩), .string ⟨#[115, 101, 99, 114, 101, 116, 32]⟩, nzA 6 a s n A la cA B lb cB] w1 (WrP bp w1 acc P t)) :
    Calls Tryz.prog 33 #[.pointer (some ⟨bp, 0, none⟩), nzA 6 a s n A la cA B lb cB] w (WrP bp w acc P t) := by
  obtain ⟨w1, hw1, hb1, hX1, hW1, hK1, hbx, hsz⟩ := n_box w (nB 6 a s n A la cA B lb cB) h
  obtain ⟨⟨e0, e1, e2, e3, e4, e5⟩, z0, z1, z2, z3, z4, z5⟩ := Blk.c6 hX1
  have hxl := hX1.lt
  have HCC := Lib.hid (HC w1 hb1 hW1); have HW := Lib.hid hw1; have HK := Lib.hid hK1
  clear HC hw1 hb1 hX1 hW1 hK1 h ha hsz
  go_enter Tryz.func33, Tryz.ntmps33
  go_wp2_with fail
  rw [HW.out]
  refine HCC.out.mono ?_
  rintro e w2 ⟨rfl, r, h1, h2, h3, h4⟩
  have hfin : WrP bp w acc P t (.returned (.tuple #[])) w2 := ⟨rfl, r, h1, h2, h3, HK.out.trans h4⟩
  have HFIN := Lib.hid hfin
  clear hfin h1 h2 h3 h4
  go_wp2_with fail
  first | go_end0 | skip
  all_goals first | exact HFIN.out | exact bodyPost_ret (results_none rfl _ _ _) rfl HFIN.out
set_option maxRecDepth 100000 in
set_option maxHeartbeats 2000000 in
theorem st_7 (w : World) (bp : Nat) (acc : Bs) (a : Int) (s : Bs) (n : Nat) (A : Option Addr) (la cA : Nat) (B : Option Addr) (lb cB : Nat) (P : Prop) (t : Bs) (h : IsW bp acc w) (ha : acc.length ≤ 1068576)
    (HC : ∀ w1, Below w.heap.size w w1 → IsW bp acc w1 → Calls Tryz.prog 57 #[.pointer (some ⟨bp, 0, none⟩), .string ⟨#[112, 117, 98, 108, 105, 99, 32]⟩, nzA 7 a s n A la cA B lb cB] w1 (WrP bp w1 acc P t)) :
    Calls Tryz.prog 33 #[.pointer (some ⟨bp, 0, none⟩), nzA 7 a s n A la cA B lb cB] w (WrP bp w acc P t) := by
  obtain ⟨w1, hw1, hb1, hX1, hW1, hK1, hbx, hsz⟩ := n_box w (nB 7 a s n A la cA B lb cB) h
  obtain ⟨⟨e0, e1, e2, e3, e4, e5⟩, z0, z1, z2, z3, z4, z5⟩ := Blk.c6 hX1
  have hxl := hX1.lt
  have HCC := Lib.hid (HC w1 hb1 hW1); have HW := Lib.hid hw1; have HK := Lib.hid hK1
  clear HC hw1 hb1 hX1 hW1 hK1 h ha hsz
  go_enter Tryz.func33, Tryz.ntmps33
  go_wp2_with fail
  rw [HW.out]
  refine HCC.out.mono ?_
  rintro e w2 ⟨rfl, r, h1, h2, h3, h4⟩
  have hfin : WrP bp w acc P t (.returned (.tuple #[])) w2 := ⟨rfl, r, h1, h2, h3, HK.out.trans h4⟩
  have HFIN := Lib.hid hfin
  clear hfin h1 h2 h3 h4
  go_wp2_with fail
  first | go_end0 | skip
  all_goals first | exact HFIN.out | exact bodyPost_ret (results_none rfl _ _ _) rfl HFIN.out
set_option maxRecDepth 100000 in
set_option maxHeartbeats 2000000 in
theorem st_8 (w : World) (bp : Nat) (acc : Bs) (a : Int) (s : Bs) (n : Nat) (A : Option Addr) (la cA : Nat) (B : Option Addr) (lb cB : Nat) (P : Prop) (t : Bs) (h : IsW bp acc w) (ha : acc.length ≤ 1068576)
    (HC : ∀ w1, Below w.heap.size w w1 → IsW bp acc w1 → Calls Tryz.prog 58 #[.pointer (some ⟨bp, 0, none⟩), .string ⟨#[111, 117, 116, 32]⟩, nzA 8 a s n A la cA B lb cB] w1 (WrP bp w1 acc P t)) :
    Calls Tryz.prog 33 #[.pointer (some ⟨bp, 0, none⟩), nzA 8 a s n A la cA B lb cB] w (WrP bp w acc P t) := by
  obtain ⟨w1, hw1, hb1, hX1, hW1, hK1, hbx, hsz⟩ := n_box w (nB 8 a s n A la cA B lb cB) h
  obtain ⟨⟨e0, e1, e2, e3, e4, e5⟩, z0, z1, z2, z3, z4, z5⟩ := Blk.c6 hX1
  have hxl := hX1.lt
  have HCC := Lib.hid (HC w1 hb1 hW1); have HW := Lib.hid hw1; have HK := Lib.hid hK1
  clear HC hw1 hb1 hX1 hW1 hK1 h ha hsz
  go_enter Tryz.func33, Tryz.ntmps33
  go_wp2_with fail
  rw [HW.out]
  refine HCC.out.mono ?_
  rintro e w2 ⟨rfl, r, h1, h2, h3, h4⟩
  have hfin : WrP bp w acc P t (.returned (.tuple #[])) w2 := ⟨rfl, r, h1, h2, h3, HK.out.trans h4⟩
  have HFIN := Lib.hid hfin
  clear hfin h1 h2 h3 h4
  go_wp2_with fail
  first | go_end0 | skip
  all_goals first | exact HFIN.out | exact bodyPost_ret (results_none rfl _ _ _) rfl HFIN.out
set_option maxRecDepth 100000 in
set_option maxHeartbeats 2000000 in
theorem st_9 (w : World) (bp : Nat) (acc : Bs) (a : Int) (s : Bs) (n : Nat) (A : Option Addr) (la cA : Nat) (B : Option Addr) (lb cB : Nat) (P : Prop) (t : Bs) (h : IsW bp acc w) (ha : acc.length ≤ 1068576)
    (HC : ∀ w1, Below w.heap.size w w1 → IsW bp acc w1 → Calls Tryz.prog 58 #[.pointer (some ⟨bp, 0, none⟩), .string ⟨#[115, 104, 111, 119, 32]⟩, nzA 9 a s n A la cA B lb cB] w1 (WrP bp w1 acc P t)) :
    Calls Tryz.prog 33 #[.pointer (some ⟨bp, 0, none⟩), nzA 9 a s n A la cA B lb cB] w (WrP bp w acc P t) := by
  obtain ⟨w1, hw1, hb1, hX1, hW1, hK1, hbx, hsz⟩ := n_box w (nB 9 a s n A la cA B lb cB) h
  obtain ⟨⟨e0, e1, e2, e3, e4, e5⟩, z0, z1, z2, z3, z4, z5⟩ := Blk.c6 hX1
  have hxl := hX1.lt
  have HCC := Lib.hid (HC w1 hb1 hW1); have HW := Lib.hid hw1; have HK := Lib.hid hK1
  clear HC hw1 hb1 hX1 hW1 hK1 h ha hsz
  go_enter Tryz.func33, Tryz.ntmps33
  go_wp2_with fail
  rw [HW.out]
  refine HCC.out.mono ?_
  rintro e w2 ⟨rfl, r, h1, h2, h3, h4⟩
  have hfin : WrP bp w acc P t (.returned (.tuple #[])) w2 := ⟨rfl, r, h1, h2, h3, HK.out.trans h4⟩
  have HFIN := Lib.hid hfin
  clear hfin h1 h2 h3 h4
  go_wp2_with fail
  first | go_end0 | skip
  all_goals first | exact HFIN.out | exact bodyPost_ret (results_none rfl _ _ _) rfl HFIN.out
set_option maxRecDepth 100000 in
set_option maxHeartbeats 2000000 in
theorem st_10 (w : World) (bp : Nat) (acc : Bs) (a : Int) (s : Bs) (n : Nat) (A : Option Addr) (la cA : Nat) (B : Option Addr) (lb cB : Nat) (P : Prop) (t : Bs) (h : IsW bp acc w) (ha : acc.length ≤ 1068576)
    (HC : ∀ w1, Below w.heap.size w w1 → IsW bp acc w1 → Calls Tryz.prog 58 #[.pointer (some ⟨bp, 0, none⟩), .string ⟨#[]⟩, nzA 10 a s n A la cA B lb cB] w1 (WrP bp w1 acc P t)) :
    Calls Tryz.prog 33 #[.pointer (some ⟨bp, 0, none⟩), nzA 10 a s n A la cA B lb cB] w (WrP bp w acc P t) := by
  obtain ⟨w1, hw1, hb1, hX1, hW1, hK1, hbx, hsz⟩ := n_box w (nB 10 a s n A la cA B lb cB) h
  obtain ⟨⟨e0, e1, e2, e3, e4, e5⟩, z0, z1, z2, z3, z4, z5⟩ := Blk.c6 hX1
  have hxl := hX1.lt
  have HCC := Lib.hid (HC w1 hb1 hW1); have HW := Lib.hid hw1; have HK := Lib.hid hK1
  clear HC hw1 hb1 hX1 hW1 hK1 h ha hsz
  go_enter Tryz.func33, Tryz.ntmps33
  go_wp2_with fail
  rw [HW.out]
  refine HCC.out.mono ?_
  rintro e w2 ⟨rfl, r, h1, h2, h3, h4⟩
  have hfin : WrP bp w acc P t (.returned (.tuple #[])) w2 := ⟨rfl, r, h1, h2, h3, HK.out.trans h4⟩
  have HFIN := Lib.hid hfin
  clear hfin h1 h2 h3 h4
  go_wp2_with fail
  first | go_end0 | skip
  all_goals first | exact HFIN.out | exact bodyPost_ret (results_none rfl _ _ _) rfl HFIN.out
set_option maxRecDepth 100000 in
set_option maxHeartbeats 2000000 in
theorem st_11 (w : World) (bp : Nat) (acc : Bs) (a : Int) (s : Bs) (n : Nat) (A : Option Addr) (la cA : Nat) (B : Option Addr) (lb cB : Nat) (P : Prop) (t : Bs) (h : IsW bp acc w) (ha : acc.length ≤ 1068576)
    (HC : ∀ w1, Below w.heap.size w w1 → IsW bp acc w1 → Calls Tryz.prog 60 #[.pointer (some ⟨bp, 0, none⟩), nzA 11 a s n A la cA B lb cB] w1 (WrP bp w1 acc P t)) :
    Calls Tryz.prog 33 #[.pointer (some ⟨bp, 0, none⟩), nzA 11 a s n A la cA B lb cB] w (WrP bp w acc P t) := by
  obtain ⟨w1, hw1, hb1, hX1, hW1, hK1, hbx, hsz⟩ := n_box w (nB 11 a s n A la cA B lb cB) h
  obtain ⟨⟨e0, e1, e2, e3, e4, e5⟩, z0, z1, z2, z3, z4, z5⟩ := Blk.c6 hX1
  have hxl := hX1.lt
  have HCC := Lib.hid (HC w1 hb1 hW1); have HW := Lib.hid hw1; have HK := Lib.hid hK1
  clear HC hw1 hb1 hX1 hW1 hK1 h ha hsz
  go_enter Tryz.func33, Tryz.ntmps33
  go_wp2_with fail
  rw [HW.out]
  refine HCC.out.mono ?_
  rintro e w2 ⟨rfl, r, h1, h2, h3, h4⟩
  have hfin : WrP bp w acc P t (.returned (.tuple #[])) w2 := ⟨rfl, r, h1, h2, h3, HK.out.trans h4⟩
  have HFIN := Lib.hid hfin
  clear hfin h1 h2 h3 h4
  go_wp2_with fail
  first | go_end0 | skip
  all_goals first | exact HFIN.out | exact bodyPost_ret (results_none rfl _ _ _) rfl HFIN.out
set_option maxRecDepth 100000 in
set_option maxHeartbeats 2000000 in
theorem st_12 (w : World) (bp : Nat) (acc : Bs) (a : Int) (s : Bs) (n : Nat) (A : Option Addr) (la cA : Nat) (B : Option Addr) (lb cB : Nat) (P : Prop) (t : Bs) (h : IsW bp acc w) (ha : acc.length ≤ 1068576)
    (HC : ∀ w1, Below w.heap.size w w1 → IsW bp acc w1 → Calls Tryz.prog 59 #[.pointer (some ⟨bp, 0, none⟩), nzA 12 a s n A la cA B lb cB] w1 (WrP bp w1 acc P t)) :
    Calls Tryz.prog 33 #[.pointer (some ⟨bp, 0, none⟩), nzA 12 a s n A la cA B lb cB] w (WrP bp w acc P t) := by
  obtain ⟨w1, hw1, hb1, hX1, hW1, hK1, hbx, hsz⟩ := n_box w (nB 12 a s n A la cA B lb cB) h
  obtain ⟨⟨e0, e1, e2, e3, e4, e5⟩, z0, z1, z2, z3, z4, z5⟩ := Blk.c6 hX1
  have hxl := hX1.lt
  have HCC := Lib.hid (HC w1 hb1 hW1); have HW := Lib.hid hw1; have HK := Lib.hid hK1
  clear HC hw1 hb1 hX1 hW1 hK1 h ha hsz
  go_enter Tryz.func33, Tryz.ntmps33
  go_wp2_with fail
  rw [HW.out]
  refine HCC.out.mono ?_
  rintro e w2 ⟨rfl, r, h1, h2, h3, h4⟩
  have hfin : WrP bp w acc P t (.returned (.tuple #[])) w2 := ⟨rfl, r, h1, h2, h3, HK.out.trans h4⟩
  have HFIN := Lib.hid hfin
  clear hfin h1 h2 h3 h4
  go_wp2_with fail
  first | go_end0 | skip
  all_goals first | exact HFIN.out | exact bodyPost_ret (results_none rfl _ _ _) rfl HFIN.out
theorem stT_mk (d : Nat → Bs) (k a : Int) (s : Bs) (n : Nat) (ps : List Bs) (l : List Tz) : stT d (.mk k a s n ps l) =
    if k = 6 then [115, 101, 99, 114, 101, 116, 32] ++ naT true ps ++ [59]
    else if k = 7 then [112, 117, 98, 108, 105, 99, 32] ++ naT true ps ++ [59]
    else if k = 11 then (if l.length < 2 then [63] else [102, 111, 114, 32] ++ s ++ [32, 105, 110, 32] ++ foT d 2 l ++ [32, 125])
    else (if k = 12 then [102, 110, 32] ++ (if k = 9 then [115, 104, 111, 119, 32] ++ (if k = 8 then [111, 117, 116, 32] ++ s else s) else (if k = 8 then [111, 117, 116, 32] ++ s else s)) ++ [40] ++ naT true ps ++ [41]
      else if k = 9 then [115, 104, 111, 119, 32] ++ (if k = 8 then [111, 117, 116, 32] ++ s else s) else if k = 8 then [111, 117, 116, 32] ++ s else s) ++ [32, 61, 32] ++ liT d [] false true l ++ [59] := by
  conv => lhs; unfold stT
theorem lit1 (d : Nat → Bs) (x : Tz) : liT d [] false true [x] = exT d x := by rw [liT_cons, liT_nil, opT_eq]; simp
theorem stw (HF : FmC) : ∀ m, StW m
  | 0 => fun z h => absurd h (Nat.not_lt_zero _)
  | m + 1 => by
    intro z hm hls hok w0 w bp acc k a s n A la cA B lb cB hT hTB hb h0 h ha
    obtain ⟨k1, a1, s1, n1, ps, l⟩ := z
    have hcap0 := hT
    obtain ⟨rfl, rfl, rfl, rfl, rfl, rfl, hl, hp, hLB, css, hL, hS⟩ := tIz_parts hT
    have hcap := tIz_cap hcap0
    have hlm : l.length ≤ 9223372036854775807 := hl
    have hmm : ∀ (i : Nat) (x : Tz), l[i]? = some x → SizeOf.sizeOf x < m := fun i x hx => by
      have := size_memz (k := k) (a := a) (n := n) (s := s) (ps := ps) hx
      omega
    unfold okz at hok
    unfold ls at hls
    simp only [Bool.and_eq_true, decide_eq_true_eq] at hls
    have H := stw HF m
    rw [stT_mk]
    by_cases h6 : k = 6
    · subst h6
      refine (st_6 w bp acc a s n A l.length cA B ps.length cB True ([115, 101, 99, 114, 101, 116, 32] ++ naT true ps ++ [59]) h ha fun w1 hb1 hw1 => ?_).mono fun e w' hw => hw.eq (fun _ => trivial) fun _ => rfl
      exact inputsW w0 w1 bp acc [115, 101, 99, 114, 101, 116, 32] 6 a s n A l.length cA B ps cB hTB (hb.trans (hb1.mono hb.size)) h0 hw1 ha hLB hp hok.2.1 (by simp)
    by_cases h7 : k = 7
    · subst h7
      refine (st_7 w bp acc a s n A l.length cA B ps.length cB True ([112, 117, 98, 108, 105, 99, 32] ++ naT true ps ++ [59]) h ha fun w1 hb1 hw1 => ?_).mono fun e w' hw => hw.eq (fun _ => trivial) fun _ => rfl
      exact inputsW w0 w1 bp acc [112, 117, 98, 108, 105, 99, 32] 7 a s n A l.length cA B ps cB hTB (hb.trans (hb1.mono hb.size)) h0 hw1 ha hLB hp hok.2.1 (by simp)
    have hone : ∀ k' : Int, (k' = 8 ∨ k' = 9 ∨ k' = 10 ∨ k' = 12) → shS (.mk k' a s n ps l) → ∀ x0 r, l = x0 :: r → shE x0 ∧ r = [] := fun k' hk' hs x0 r e => by
      subst e
      unfold shS at hs
      rcases hs with ⟨h, _⟩ | ⟨_, h1, h2⟩ | ⟨h, _⟩
      · omega
      · unfold shEs at h2
        exact ⟨h2.1, by simpa using h1⟩
      · omega
    by_cases h11 : k = 11
    · subst h11
      match l, hl, hlm, hmm, hls, hok, hL, hS, hcap with
      | [], _, _, _, hls, _, _, _, _ => simp [leastV] at hls
      | [_], _, _, _, hls, _, _, _, _ => simp [leastV] at hls
      | x0 :: x1 :: l, hl, hlm, hmm, hls, hok, hL, hS, hcap =>
        have hls0 := lss_at hls.2 (i := 0) (x := x0) rfl
        have hok0 := okzs_at hok.2.2.2 (i := 0) (x := x0) rfl
        have hls1 := lss_at hls.2 (i := 1) (x := x1) rfl
        have hok1 := okzs_at hok.2.2.2 (i := 1) (x := x1) rfl
        have hls2 : lss l = true := by
          have := hls.2
          unfold lss lss at this
          simp only [Bool.and_eq_true] at this
          exact this.2.2
        have hok2 : okzs l := by
          have := hok.2.2.2
          unfold okzs okzs at this
          exact this.2.2
        refine (st_11 w bp acc a s n A (x0 :: x1 :: l).length cA B ps.length cB (shE x0 ∧ shE x1 ∧ shA 0 l) ([102, 111, 114, 32] ++ s ++ [32, 105, 110, 32] ++ (exT dec x0 ++ [32, 46, 46, 32] ++ (exT dec x1 ++ [32, 123] ++ foT dec 0 l)) ++ [32, 125]) h ha fun w1 hb1 hw1 => ?_).mono fun e w' hw => hw.eq (fun hs => ?_) fun hs => ?_
        · exact loopW w0 w1 bp acc HF H 11 a s n A l cA B ps.length cB css x0 hls0 hok0 x1 hls1 hok1 hTB (hb.trans (hb1.mono hb.size)) h0 hw1 ha hok.1 hL hS hlm hcap.1 (Nat.le_trans hcap.2 (by decide)) (fun i x hx => hmm (i + 2) x (by simpa using hx)) hls2 hok2
        · unfold shS at hs
          rcases hs with ⟨h, _⟩ | ⟨h, _⟩ | ⟨_, _, h⟩
          · omega
          · omega
          · unfold shA shA at h
            exact ⟨h.1, h.2.1, h.2.2⟩
        · rw [foT_2, foT_1]
          simp
    by_cases h8 : k = 8
    · subst h8
      cases l with
      | nil => simp [leastV] at hls
      | cons x0 l =>
        refine (st_8 w bp acc a s n A (x0 :: l).length cA B ps.length cB (shE x0) ([111, 117, 116, 32] ++ s ++ [32, 61, 32] ++ exT dec x0 ++ [59]) h ha fun w1 hb1 hw1 => ?_).mono fun e w' hw => hw.eq (fun hs => (hone 8 (.inl rfl) hs x0 l rfl).1) fun hs => by rw [(hone 8 (.inl rfl) hs x0 l rfl).2, lit1]; simp
        exact setW w0 w1 bp acc HF [111, 117, 116, 32] 8 a s n A l cA B ps.length cB css x0 (lss_at hls.2 (i := 0) rfl) (okzs_at hok.2.2.2 (i := 0) rfl) hTB (hb.trans (hb1.mono hb.size)) h0 hw1 ha hok.1 hL (tsIz_weak hS) hlm (by simp)
    by_cases h9 : k = 9
    · subst h9
      cases l with
      | nil => simp [leastV] at hls
      | cons x0 l =>
        refine (st_9 w bp acc a s n A (x0 :: l).length cA B ps.length cB (shE x0) ([115, 104, 111, 119, 32] ++ s ++ [32, 61, 32] ++ exT dec x0 ++ [59]) h ha fun w1 hb1 hw1 => ?_).mono fun e w' hw => hw.eq (fun hs => (hone 9 (.inr (.inl rfl)) hs x0 l rfl).1) fun hs => by rw [(hone 9 (.inr (.inl rfl)) hs x0 l rfl).2, lit1]; simp
        exact setW w0 w1 bp acc HF [115, 104, 111, 119, 32] 9 a s n A l cA B ps.length cB css x0 (lss_at hls.2 (i := 0) rfl) (okzs_at hok.2.2.2 (i := 0) rfl) hTB (hb.trans (hb1.mono hb.size)) h0 hw1 ha hok.1 hL (tsIz_weak hS) hlm (by simp)
    by_cases h10 : k = 10
    · subst h10
      cases l with
      | nil => simp [leastV] at hls
      | cons x0 l =>
        refine (st_10 w bp acc a s n A (x0 :: l).length cA B ps.length cB (shE x0) ([] ++ s ++ [32, 61, 32] ++ exT dec x0 ++ [59]) h ha fun w1 hb1 hw1 => ?_).mono fun e w' hw => hw.eq (fun hs => (hone 10 (.inr (.inr (.inl rfl))) hs x0 l rfl).1) fun hs => by rw [(hone 10 (.inr (.inr (.inl rfl))) hs x0 l rfl).2, lit1]; simp
        exact setW w0 w1 bp acc HF [] 10 a s n A l cA B ps.length cB css x0 (lss_at hls.2 (i := 0) rfl) (okzs_at hok.2.2.2 (i := 0) rfl) hTB (hb.trans (hb1.mono hb.size)) h0 hw1 ha hok.1 hL (tsIz_weak hS) hlm (by simp)
    by_cases h12 : k = 12
    · subst h12
      cases l with
      | nil => simp [leastV] at hls
      | cons x0 l =>
        refine (st_12 w bp acc a s n A (x0 :: l).length cA B ps.length cB (shE x0) ([102, 110, 32] ++ s ++ [40] ++ naT true ps ++ [41, 32, 61, 32] ++ exT dec x0 ++ [59]) h ha fun w1 hb1 hw1 => ?_).mono fun e w' hw => hw.eq (fun hs => (hone 12 (.inr (.inr (.inr rfl))) hs x0 l rfl).1) fun hs => by rw [(hone 12 (.inr (.inr (.inr rfl))) hs x0 l rfl).2, lit1]; simp
        exact functionW w0 w1 bp acc HF 12 a s n A l cA B ps cB css x0 (lss_at hls.2 (i := 0) rfl) (okzs_at hok.2.2.2 (i := 0) rfl) hTB (hb.trans (hb1.mono hb.size)) h0 hw1 ha hLB hp hok.2.1 hok.1 hL (tsIz_weak hS) hlm
    have hno : ¬ shS (.mk k a s n ps l) := fun hs => by
      unfold shS at hs
      rcases hs with ⟨h | h, _⟩ | ⟨h | h | h | h, _⟩ | ⟨h, _⟩
      · exact h6 h
      · exact h7 h
      · exact h8 h
      · exact h9 h
      · exact h10 h
      · exact h12 h
      · exact h11 h
    exact (st_no w bp acc k a s n A l.length cA B ps.length cB h ha h6 h7 h8 h9 h10 h11 h12).mono fun e w' hw => hw.eq hno fun hs => absurd hs hno
end Go.Proofs.YtokfmclbninkmaaGreatDoor.Wr
