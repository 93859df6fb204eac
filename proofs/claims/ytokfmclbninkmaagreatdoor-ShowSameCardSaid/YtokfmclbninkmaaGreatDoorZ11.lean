/- DERIVED. ShEx in one text. By an AI agent. -/
import Derived.Test.YtokfmclbninkmaaGreatDoorZ10
/- DERIVED. The writer's operand and expr. By an AI agent. -/
namespace Go.Proofs.YtokfmclbninkmaaGreatDoor.Wr
open Go Go.ChangeShapes Go.WideShapes Go.ChangeAt Go.RowKit Lx Args Pa Sh
set_option linter.unusedVariables false
set_option linter.unusedSimpArgs false
abbrev TabP (w : World) : Prop := Lib.TabIs Tryz.prog w "internal/strconv.uint64pow10" .u64 Lib.pow10Tab
/-- What strconv.FormatUint tells of a number of 32 bits. -/
def FmC : Prop := ∀ (n : Nat) (w : World), n < 4294967296 → TabP w → Calls Tryz.prog 43 #[.int .u64 (n : Int), .int .i64 10] w fun e w' => e = .returned (.string ⟨(dec n).toArray⟩) ∧ Below w.heap.size w w'
theorem gPw : Tryz.prog.globalNamed "internal/strconv.uint64pow10" = some 0 := by kernel_rfl
theorem tab_below {w w' : World} (h : TabP w) (hb : Below w.heap.size w w') : TabP w' := by
  unfold TabP Lib.TabIs at h ⊢
  have hc := World.var?_cell gPw h 0
  have hlt : 0 < w.heap.size := by
    refine World.block_lt_of_cell? w ⟨0, 0, none⟩ (u := (Lib.pow10Tab.map fun z => Value.int .u64 z).toArray[0]'(by simp [Lib.pow10Tab])) ?_
    exact hc.trans (Array.getElem?_eq_getElem _)
  exact var?_below hb gPw hlt h
theorem dec_short (n : Nat) (h : n < 4294967296) : (dec n).length ≤ 1048576 := by
  show (Lib.decDigits n).length ≤ 1048576
  have h1 := Lib.decDigits_length n
  by_cases h0 : n < 10
  · rw [Lib.decDigits_one h0]; simp
  · have h2 : Lib.nDigits n ≤ 20 := by have := Lib.numDigits_eq n (by omega) (by omega); split at this <;> omega
    omega
/-- The box of a node that came in by value. -/
abbrev nB (k a : Int) (s : Bs) (n : Nat) (A : Option Addr) (la cA : Nat) (B : Option Addr) (lb cB : Nat) : Array Value := #[.int .i64 k, .string ⟨s.toArray⟩, .int .u32 (n : Int), .int .i64 a, .slice A la cA, .slice B lb cB]
theorem n_box (w : World) (cs : Array Value) {bp : Nat} {acc : Bs} (h : IsW bp acc w) : ∃ w1, w.alloc (.cells cs 26) = w1 ∧ Below w.heap.size w w1 ∧ Blk w1 w.heap.size 26 cs ∧ IsW bp acc w1 ∧ Kept bp w w1 ∧ bp ≠ w.heap.size ∧ w1.heap.size = w.heap.size + 1 := by
  have hb : Below w.heap.size w (w.alloc (.cells cs 26)) := (Below.refl _ _).alloc (Nat.le_refl _) _
  exact ⟨_, rfl, hb, Blk.new _ _ _, isW_below h hb, kept_below hb h.lt, Nat.ne_of_lt h.lt, by simp⟩

set_option maxRecDepth 100000 in
set_option maxHeartbeats 2000000 in
theorem op_plain (w0 w : World) (bp : Nat) (acc : Bs) (z : Tz) (k : Int) (a : Int) (s : Bs) (n : Nat) (A : Option Addr) (la cA : Nat) (B : Option Addr) (lb cB : Nat) (hTB : TabP w0) (hb : Below w0.heap.size w0 w) (h0 : w0.heap.size ≤ bp) (h : IsW bp acc w) (ha : acc.length ≤ 1068576) (HE : ∀ (w : World) (acc : Bs), Below w0.heap.size w0 w → IsW bp acc w → acc.length ≤ 1068576 → Calls Tryz.prog 22 #[.pointer (some ⟨bp, 0, none⟩), nzA k a s n A la cA B lb cB] w (WrP bp w acc (shE z) (exT dec z))) (hkz : kz z = k) (hk : k = 0 ∨ k = 1 ∨ k = 5) :
    Calls Tryz.prog 44 #[.pointer (some ⟨bp, 0, none⟩), nzA k a s n A la cA B lb cB] w (WrP bp w acc (shE z) (opT dec true z)) := by
  obtain ⟨w1, hw1, hb1, hX1, hW1, hK1, hbx, hsz⟩ := n_box w (nB k a s n A la cA B lb cB) h
  obtain ⟨r1, hr1⟩ : ∃ r1, acc = r1 := ⟨_, rfl⟩
  rw [hr1] at hW1 ha ⊢
  have HW := Lib.hid hw1; have HX1 := Lib.hid hX1; have HW1 : Hid (IsW bp r1 w1) := Lib.hid hW1; have HK1 := Lib.hid hK1; have HA1 := Lib.hid ha; have HB := Lib.hid hb; have HTB := Lib.hid hTB; have HSZ := Lib.hid hsz
  clear hsz hw1 hX1 hW1 hK1 ha hb hTB hb1 h hr1 acc
  have HEE := Lib.hid (HE w1 r1 (low_trans HB.out h0 HK1.out) HW1.out HA1.out)
  have hT : opT dec true z = exT dec z := by rw [opT_eq, hkz]; rcases hk with rfl | rfl | rfl <;> simp
  rw [hT]
  clear HE hkz hT
  rcases hk with rfl | rfl | rfl
  all_goals
    obtain ⟨⟨e0, e1, e2, e3, e4, e5⟩, z0, z1, z2, z3, z4, z5⟩ := Blk.c6 HX1.out
    have hxl1 := HX1.out.lt
    go_enter Tryz.func44, Tryz.ntmps44
    go_wp2_with fail
    rw [HW.out]
    refine HEE.out.mono ?_
    rintro e w2 ⟨rfl, r2, h1, h2, h3, h4⟩
    have HW2 : Hid (IsW bp r2 w2) := Lib.hid h1; have HA2 := Lib.hid h2; have HC2 := Lib.hid h3; have HK2 := Lib.hid (HK1.out.trans h4); have HX2 := Lib.hid (h4.blk HX1.out hbx.symm neN)
    clear h1 h2 h3 h4 e0 e1 e2 e3 e4 e5 z0 z1 z2 z3 z4 z5
    go_wp2_with fail
    have hfin : WrP bp w r1 (shE z) (exT dec z) (.returned (.tuple #[])) w2 := ⟨rfl, r2, HW2.out, HA2.out, HC2.out, HK2.out⟩
    first | go_end0 | skip
    all_goals first | exact hfin | exact bodyPost_ret (results_none rfl _ _ _) rfl hfin
set_option maxRecDepth 100000 in
set_option maxHeartbeats 2000000 in
theorem op_par (w0 w : World) (bp : Nat) (acc : Bs) (z : Tz) (k : Int) (a : Int) (s : Bs) (n : Nat) (A : Option Addr) (la cA : Nat) (B : Option Addr) (lb cB : Nat) (hTB : TabP w0) (hb : Below w0.heap.size w0 w) (h0 : w0.heap.size ≤ bp) (h : IsW bp acc w) (ha : acc.length ≤ 1068576) (HE : ∀ (w : World) (acc : Bs), Below w0.heap.size w0 w → IsW bp acc w → acc.length ≤ 1068576 → Calls Tryz.prog 22 #[.pointer (some ⟨bp, 0, none⟩), nzA k a s n A la cA B lb cB] w (WrP bp w acc (shE z) (exT dec z))) (hkz : kz z = k) (h0k : k ≠ 0) (h1k : k ≠ 1) (h5k : k ≠ 5) :
    Calls Tryz.prog 44 #[.pointer (some ⟨bp, 0, none⟩), nzA k a s n A la cA B lb cB] w (WrP bp w acc (shE z) (opT dec true z)) := by
  obtain ⟨w1, hw1, hb1, hX1, hW1, hK1, hbx, hsz⟩ := n_box w (nB k a s n A la cA B lb cB) h
  obtain ⟨r1, hr1⟩ : ∃ r1, acc = r1 := ⟨_, rfl⟩
  rw [hr1] at hW1 ha ⊢
  have HW := Lib.hid hw1; have HX1 := Lib.hid hX1; have HW1 : Hid (IsW bp r1 w1) := Lib.hid hW1; have HK1 := Lib.hid hK1; have HA1 := Lib.hid ha; have HB := Lib.hid hb; have HTB := Lib.hid hTB; have HSZ := Lib.hid hsz
  clear hsz hw1 hX1 hW1 hK1 ha hb hTB hb1 h hr1 acc
  have HEE := Lib.hid HE
  have hT : opT dec true z = [40] ++ exT dec z ++ [41] := by rw [opT_eq, hkz]; simp [h0k, h1k, h5k]
  rw [hT]
  have q0 : (k == 0) = false := by simpa using h0k
  have q1 : (k == 1) = false := by simpa using h1k
  have q5 : (k == 5) = false := by simpa using h5k
  clear HE hkz hT h0k h1k h5k
  obtain ⟨⟨e0, e1, e2, e3, e4, e5⟩, z0, z1, z2, z3, z4, z5⟩ := Blk.c6 HX1.out
  have hxl1 := HX1.out.lt
  go_enter Tryz.func44, Tryz.ntmps44
  go_wp2_with fail
  rw [HW.out]
  have hpu := putN w1 bp [[40]] r1 HW1.out HA1.out (by simp) (by simp)
  rw [HSZ.out] at hpu
  have HP1 := Lib.hid hpu
  clear hpu
  refine (show Calls Tryz.prog 34 #[.pointer (some ⟨bp, 0, none⟩), .slice (some ⟨w.heap.size + 1, 0, none⟩) 1 1] (w1.alloc (.cells #[.string ⟨#[40]⟩] 9)) (WrP bp w1 r1 True [[40]].flatten) from HP1.out).mono ?_
  rintro e w2 ⟨rfl, r2, h1, h2, h3, h4⟩
  have HW2 : Hid (IsW bp r2 w2) := Lib.hid h1; have HA2 := Lib.hid h2; have HC2 := Lib.hid h3; have HK2 := Lib.hid (HK1.out.trans h4); have HX2 := Lib.hid (h4.blk HX1.out hbx.symm neN)
  clear h1 h2 h3 h4 e0 e1 e2 e3 e4 e5 z0 z1 z2 z3 z4 z5
  obtain ⟨⟨e0, e1, e2, e3, e4, e5⟩, z0, z1, z2, z3, z4, z5⟩ := Blk.c6 HX2.out
  have hxl2 := HX2.out.lt
  have HP2 := Lib.hid (HEE.out w2 r2 (low_trans HB.out h0 HK2.out) HW2.out HA2.out)
  go_wp2_with fail
  refine HP2.out.mono ?_
  rintro e w3 ⟨rfl, r3, h1, h2, h3, h4⟩
  have HW3 : Hid (IsW bp r3 w3) := Lib.hid h1; have HA3 := Lib.hid h2; have HC3 := Lib.hid h3; have HK3 := Lib.hid (HK2.out.trans h4); have HX3 := Lib.hid (h4.blk HX2.out hbx.symm neN)
  clear h1 h2 h3 h4 e0 e1 e2 e3 e4 e5 z0 z1 z2 z3 z4 z5
  obtain ⟨⟨e0, e1, e2, e3, e4, e5⟩, z0, z1, z2, z3, z4, z5⟩ := Blk.c6 HX3.out
  have hxl3 := HX3.out.lt
  have HP3 := Lib.hid (putN w3 bp [[41]] r3 HW3.out HA3.out (by simp) (by simp))
  go_wp2_with fail
  refine (show Calls Tryz.prog 34 #[.pointer (some ⟨bp, 0, none⟩), .slice (some ⟨w3.heap.size, 0, none⟩) 1 1] (w3.alloc (.cells #[.string ⟨#[41]⟩] 9)) (WrP bp w3 r3 True [[41]].flatten) from HP3.out).mono ?_
  rintro e w4 ⟨rfl, r4, h1, h2, h3, h4⟩
  have HW4 : Hid (IsW bp r4 w4) := Lib.hid h1; have HA4 := Lib.hid h2; have HC4 := Lib.hid h3; have HK4 := Lib.hid (HK3.out.trans h4); have HX4 := Lib.hid (h4.blk HX3.out hbx.symm neN)
  clear h1 h2 h3 h4 e0 e1 e2 e3 e4 e5 z0 z1 z2 z3 z4 z5
  have HCUT := Lib.hid (show (shE z) → Cut r1 ([40] ++ exT dec z ++ [41]) r4 from fun hp => Cut.eq (((HC2.out trivial).trans (HC3.out hp)).trans (HC4.out trivial)) (by simp))
  go_wp2_with fail
  have hfin : WrP bp w r1 (shE z) ([40] ++ exT dec z ++ [41]) (.returned (.tuple #[])) w4 := ⟨rfl, r4, HW4.out, HA4.out, HCUT.out, HK4.out⟩
  first | go_end0 | skip
  all_goals first | exact hfin | exact bodyPost_ret (results_none rfl _ _ _) rfl hfin
set_option maxRecDepth 100000 in
set_option maxHeartbeats 2000000 in
theorem ex_0 (w0 w : World) (bp : Nat) (acc : Bs) (HF : FmC) (a : Int) (s : Bs) (n : Nat) (A : Option Addr) (la cA : Nat) (B : Option Addr) (lb cB : Nat) (t : Bs) (hTB : TabP w0) (hb : Below w0.heap.size w0 w) (h0 : w0.heap.size ≤ bp) (h : IsW bp acc w) (ha : acc.length ≤ 1068576) (ht : dec n = t) (hn : n < 4294967296) :
    Calls Tryz.prog 22 #[.pointer (some ⟨bp, 0, none⟩), nzA 0 a s n A la cA B lb cB] w (WrP bp w acc True t) := by
  obtain ⟨w1, hw1, hb1, hX1, hW1, hK1, hbx, hsz⟩ := n_box w (nB 0 a s n A la cA B lb cB) h
  obtain ⟨r1, hr1⟩ : ∃ r1, acc = r1 := ⟨_, rfl⟩
  rw [hr1] at hW1 ha ⊢
  have HW := Lib.hid hw1; have HX1 := Lib.hid hX1; have HW1 : Hid (IsW bp r1 w1) := Lib.hid hW1; have HK1 := Lib.hid hK1; have HA1 := Lib.hid ha; have HB := Lib.hid hb; have HTB := Lib.hid hTB; have HSZ := Lib.hid hsz
  clear hsz hw1 hX1 hW1 hK1 ha hb hTB hb1 h hr1 acc
  have HT := Lib.hid (show t.length ≤ 1048576 by rw [← ht]; exact dec_short n hn)
  have HFF := Lib.hid (HF n w1 hn (tab_below HTB.out (low_trans HB.out h0 HK1.out)))
  have hcv : IntKind.u64.wrap (n : Int) = (n : Int) := by rw [IntKind.wrap_u64]; omega
  rw [ht] at HFF
  clear ht
  obtain ⟨⟨e0, e1, e2, e3, e4, e5⟩, z0, z1, z2, z3, z4, z5⟩ := Blk.c6 HX1.out
  have hxl1 := HX1.out.lt
  go_enter Tryz.func22, Tryz.ntmps22
  go_wp2_with fail
  rw [HW.out]
  refine HFF.out.mono ?_
  rintro e wf ⟨rfl, hbf⟩
  have hlw := HW1.out.lt
  have HWf : Hid (IsW bp r1 wf) := Lib.hid (isW_below HW1.out hbf); have HKf := Lib.hid (HK1.out.trans (kept_below hbf hlw))
  have HPf := Lib.hid (putN wf bp [t] r1 HWf.out HA1.out (by simpa using HT.out) (by simp))
  clear hbf e0 e1 e2 e3 e4 e5 z0 z1 z2 z3 z4 z5
  go_wp2_with fail
  refine (show Calls Tryz.prog 34 #[.pointer (some ⟨bp, 0, none⟩), .slice (some ⟨wf.heap.size, 0, none⟩) 1 1] (wf.alloc (.cells #[.string ⟨t.toArray⟩] 9)) (WrP bp wf r1 True [t].flatten) from HPf.out).mono ?_
  rintro e w2 ⟨rfl, r2, h1, h2, h3, h4⟩
  have HW2 : Hid (IsW bp r2 w2) := Lib.hid h1; have HA2 := Lib.hid h2; have HC2 := Lib.hid h3; have HK2 := Lib.hid (HKf.out.trans h4)
  clear h1 h2 h3 h4
  have HCUT := Lib.hid (show (True) → Cut r1 (t) r2 from fun hp => Cut.eq (HC2.out trivial) (by simp))
  go_wp2_with fail
  have hfin : WrP bp w r1 (True) (t) (.returned (.tuple #[])) w2 := ⟨rfl, r2, HW2.out, HA2.out, HCUT.out, HK2.out⟩
  first | go_end0 | skip
  all_goals first | exact hfin | exact bodyPost_ret (results_none rfl _ _ _) rfl hfin
set_option maxRecDepth 100000 in
set_option maxHeartbeats 2000000 in
theorem ex_1 (w0 w : World) (bp : Nat) (acc : Bs) (a : Int) (s : Bs) (n : Nat) (A : Option Addr) (la cA : Nat) (B : Option Addr) (lb cB : Nat) (hTB : TabP w0) (hb : Below w0.heap.size w0 w) (h0 : w0.heap.size ≤ bp) (h : IsW bp acc w) (ha : acc.length ≤ 1068576) (hs : s.length ≤ 1048576) :
    Calls Tryz.prog 22 #[.pointer (some ⟨bp, 0, none⟩), nzA 1 a s n A la cA B lb cB] w (WrP bp w acc True s) := by
  obtain ⟨w1, hw1, hb1, hX1, hW1, hK1, hbx, hsz⟩ := n_box w (nB 1 a s n A la cA B lb cB) h
  obtain ⟨r1, hr1⟩ : ∃ r1, acc = r1 := ⟨_, rfl⟩
  rw [hr1] at hW1 ha ⊢
  have HW := Lib.hid hw1; have HX1 := Lib.hid hX1; have HW1 : Hid (IsW bp r1 w1) := Lib.hid hW1; have HK1 := Lib.hid hK1; have HA1 := Lib.hid ha; have HB := Lib.hid hb; have HTB := Lib.hid hTB; have HSZ := Lib.hid hsz
  clear hsz hw1 hX1 hW1 hK1 ha hb hTB hb1 h hr1 acc
  have HT := Lib.hid hs
  clear hs
  obtain ⟨⟨e0, e1, e2, e3, e4, e5⟩, z0, z1, z2, z3, z4, z5⟩ := Blk.c6 HX1.out
  have hxl1 := HX1.out.lt
  go_enter Tryz.func22, Tryz.ntmps22
  go_wp2_with fail
  rw [HW.out]
  have hpu := putN w1 bp [s] r1 HW1.out HA1.out (by simpa using HT.out) (by simp)
  rw [HSZ.out] at hpu
  have HP1 := Lib.hid hpu
  clear hpu
  refine (show Calls Tryz.prog 34 #[.pointer (some ⟨bp, 0, none⟩), .slice (some ⟨w.heap.size + 1, 0, none⟩) 1 1] (w1.alloc (.cells #[.string ⟨s.toArray⟩] 9)) (WrP bp w1 r1 True [s].flatten) from HP1.out).mono ?_
  rintro e w2 ⟨rfl, r2, h1, h2, h3, h4⟩
  have HW2 : Hid (IsW bp r2 w2) := Lib.hid h1; have HA2 := Lib.hid h2; have HC2 := Lib.hid h3; have HK2 := Lib.hid (HK1.out.trans h4); have HX2 := Lib.hid (h4.blk HX1.out hbx.symm neN)
  clear h1 h2 h3 h4 e0 e1 e2 e3 e4 e5 z0 z1 z2 z3 z4 z5
  have HCUT := Lib.hid (show (True) → Cut r1 (s) r2 from fun hp => Cut.eq (HC2.out trivial) (by simp))
  go_wp2_with fail
  have hfin : WrP bp w r1 (True) (s) (.returned (.tuple #[])) w2 := ⟨rfl, r2, HW2.out, HA2.out, HCUT.out, HK2.out⟩
  first | go_end0 | skip
  all_goals first | exact hfin | exact bodyPost_ret (results_none rfl _ _ _) rfl hfin
/-- operand, of trees smaller than m. -/
def OpW (m : Nat) : Prop := ∀ (z : Tz), SizeOf.sizeOf z < m → ls z = true → okz z → ∀ (w0 w : World) (bp : Nat) (acc : Bs) (k a : Int) (s : Bs) (n : Nat) (A : Option Addr) (la cA : Nat) (B : Option Addr) (lb cB : Nat), TIz w0 z (nzC k a s n A la cA B lb cB) →
  TabP w0 → Below w0.heap.size w0 w → w0.heap.size ≤ bp → IsW bp acc w → acc.length ≤ 1068576 →
  Calls Tryz.prog 44 #[.pointer (some ⟨bp, 0, none⟩), nzA k a s n A la cA B lb cB] w (WrP bp w acc (shE z) (opT dec true z))
set_option maxRecDepth 100000 in
set_option maxHeartbeats 2000000 in
theorem ex_2 (w0 w : World) (bp : Nat) (acc : Bs) {m : Nat} (H : OpW m) (a : Int) (s : Bs) (n : Nat) (A : Option Addr) (l : List Tz) (cA : Nat) (B : Option Addr) (lb cB : Nat) (css : List (List Value)) (x0 : Tz) (hm0 : SizeOf.sizeOf x0 < m) (hls0 : ls x0 = true) (hok0 : okz x0) (hTB : TabP w0) (hb : Below w0.heap.size w0 w) (h0 : w0.heap.size ≤ bp) (h : IsW bp acc w) (ha : acc.length ≤ 1068576) (hs : s.length ≤ 1048576) (hL : Lies w0 A css.flatten) (hS : TsIz w0 (x0 :: l) css) (hlm : (x0 :: l).length ≤ 9223372036854775807) :
    Calls Tryz.prog 22 #[.pointer (some ⟨bp, 0, none⟩), nzA 2 a s n A (x0 :: l).length cA B lb cB] w (WrP bp w acc (shE x0) (s ++ opT dec true x0)) := by
  obtain ⟨w1, hw1, hb1, hX1, hW1, hK1, hbx, hsz⟩ := n_box w (nB 2 a s n A (x0 :: l).length cA B lb cB) h
  obtain ⟨r1, hr1⟩ : ∃ r1, acc = r1 := ⟨_, rfl⟩
  rw [hr1] at hW1 ha ⊢
  have HW := Lib.hid hw1; have HX1 := Lib.hid hX1; have HW1 : Hid (IsW bp r1 w1) := Lib.hid hW1; have HK1 := Lib.hid hK1; have HA1 := Lib.hid ha; have HB := Lib.hid hb; have HTB := Lib.hid hTB; have HSZ := Lib.hid hsz
  clear hsz hw1 hX1 hW1 hK1 ha hb hTB hb1 h hr1 acc
  have HT := Lib.hid hs; have HL := Lib.hid hL; have HS := Lib.hid hS
  clear hs hL hS
  obtain ⟨ln, hln⟩ : ∃ ln, (x0 :: l).length = ln := ⟨_, rfl⟩
  have hl1 : 0 < ln := by rw [← hln]; simp
  rw [hln] at HX1 HW hlm ⊢
  obtain ⟨⟨e0, e1, e2, e3, e4, e5⟩, z0, z1, z2, z3, z4, z5⟩ := Blk.c6 HX1.out
  have hxl1 := HX1.out.lt
  go_enter Tryz.func22, Tryz.ntmps22
  go_wp2_with fail
  rw [HW.out]
  have hpu := putN w1 bp [s] r1 HW1.out HA1.out (by simpa using HT.out) (by simp)
  rw [HSZ.out] at hpu
  have HP1 := Lib.hid hpu
  clear hpu
  refine (show Calls Tryz.prog 34 #[.pointer (some ⟨bp, 0, none⟩), .slice (some ⟨w.heap.size + 1, 0, none⟩) 1 1] (w1.alloc (.cells #[.string ⟨s.toArray⟩] 9)) (WrP bp w1 r1 True [s].flatten) from HP1.out).mono ?_
  rintro e w2 ⟨rfl, r2, h1, h2, h3, h4⟩
  have HW2 : Hid (IsW bp r2 w2) := Lib.hid h1; have HA2 := Lib.hid h2; have HC2 := Lib.hid h3; have HK2 := Lib.hid (HK1.out.trans h4); have HX2 := Lib.hid (h4.blk HX1.out hbx.symm neN)
  clear h1 h2 h3 h4 e0 e1 e2 e3 e4 e5 z0 z1 z2 z3 z4 z5
  obtain ⟨⟨e0, e1, e2, e3, e4, e5⟩, z0, z1, z2, z3, z4, z5⟩ := Blk.c6 HX2.out
  have hxl2 := HX2.out.lt
  obtain ⟨b0, o0, k0, a0, s0, n0, A0, la0, cA0, B0, lb0, cB0, hAe0, hT0, hbl0, g0, g1, g2, g3, g4, g5⟩ := partz_b (low_trans HB.out h0 HK2.out) HL.out HS.out (show (x0 :: l)[0]? = some x0 from rfl)
  cases hAe0
  simp only [Nat.zero_mul, Nat.add_zero] at g0 g1 g2 g3 g4 g5
  have HT0 := Lib.hid hT0
  clear hT0
  have HP2 := Lib.hid (H x0 hm0 hls0 hok0 w0 w2 bp r2 k0 a0 s0 n0 A0 la0 cA0 B0 lb0 cB0 HT0.out HTB.out (low_trans HB.out h0 HK2.out) h0 HW2.out HA2.out)
  go_wp2_with fail
  refine HP2.out.mono ?_
  rintro e w3 ⟨rfl, r3, h1, h2, h3, h4⟩
  have HW3 : Hid (IsW bp r3 w3) := Lib.hid h1; have HA3 := Lib.hid h2; have HC3 := Lib.hid h3; have HK3 := Lib.hid (HK2.out.trans h4); have HX3 := Lib.hid (h4.blk HX2.out hbx.symm neN)
  clear h1 h2 h3 h4 e0 e1 e2 e3 e4 e5 z0 z1 z2 z3 z4 z5 g0 g1 g2 g3 g4 g5
  have HCUT := Lib.hid (show (shE x0) → Cut r1 (s ++ opT dec true x0) r3 from fun hp => Cut.eq ((HC2.out trivial).trans (HC3.out hp)) (by simp))
  go_wp2_with fail
  have hfin : WrP bp w r1 (shE x0) (s ++ opT dec true x0) (.returned (.tuple #[])) w3 := ⟨rfl, r3, HW3.out, HA3.out, HCUT.out, HK3.out⟩
  first | go_end0 | skip
  all_goals first | exact hfin | exact bodyPost_ret (results_none rfl _ _ _) rfl hfin
set_option maxRecDepth 100000 in
set_option maxHeartbeats 2000000 in
theorem ex_3 (w0 w : World) (bp : Nat) (acc : Bs) {m : Nat} (H : OpW m) (a : Int) (s : Bs) (n : Nat) (A : Option Addr) (l : List Tz) (cA : Nat) (B : Option Addr) (lb cB : Nat) (css : List (List Value)) (x0 : Tz) (hm0 : SizeOf.sizeOf x0 < m) (hls0 : ls x0 = true) (hok0 : okz x0) (x1 : Tz) (hm1 : SizeOf.sizeOf x1 < m) (hls1 : ls x1 = true) (hok1 : okz x1) (hTB : TabP w0) (hb : Below w0.heap.size w0 w) (h0 : w0.heap.size ≤ bp) (h : IsW bp acc w) (ha : acc.length ≤ 1068576) (hs : s.length ≤ 1048576) (hL : Lies w0 A css.flatten) (hS : TsIz w0 (x0 :: x1 :: l) css) (hlm : (x0 :: x1 :: l).length ≤ 9223372036854775807) :
    Calls Tryz.prog 22 #[.pointer (some ⟨bp, 0, none⟩), nzA 3 a s n A (x0 :: x1 :: l).length cA B lb cB] w (WrP bp w acc (shE x0 ∧ shE x1) (opT dec true x0 ++ ([32] ++ s ++ [32] ++ opT dec true x1))) := by
  obtain ⟨w1, hw1, hb1, hX1, hW1, hK1, hbx, hsz⟩ := n_box w (nB 3 a s n A (x0 :: x1 :: l).length cA B lb cB) h
  obtain ⟨r1, hr1⟩ : ∃ r1, acc = r1 := ⟨_, rfl⟩
  rw [hr1] at hW1 ha ⊢
  have HW := Lib.hid hw1; have HX1 := Lib.hid hX1; have HW1 : Hid (IsW bp r1 w1) := Lib.hid hW1; have HK1 := Lib.hid hK1; have HA1 := Lib.hid ha; have HB := Lib.hid hb; have HTB := Lib.hid hTB; have HSZ := Lib.hid hsz
  clear hsz hw1 hX1 hW1 hK1 ha hb hTB hb1 h hr1 acc
  have HT := Lib.hid hs; have HL := Lib.hid hL; have HS := Lib.hid hS
  clear hs hL hS
  obtain ⟨ln, hln⟩ : ∃ ln, (x0 :: x1 :: l).length = ln := ⟨_, rfl⟩
  have hl1 : 1 < ln := by rw [← hln]; simp
  have hl0 : 0 < ln := by omega
  rw [hln] at HX1 HW hlm ⊢
  obtain ⟨⟨e0, e1, e2, e3, e4, e5⟩, z0, z1, z2, z3, z4, z5⟩ := Blk.c6 HX1.out
  have hxl1 := HX1.out.lt
  obtain ⟨b0, o0, k0, a0, s0, n0, A0, la0, cA0, B0, lb0, cB0, hAe0, hT0, hbl0, g0, g1, g2, g3, g4, g5⟩ := partz_b (HB.out) HL.out HS.out (show (x0 :: x1 :: l)[0]? = some x0 from rfl)
  have hbw := Nat.lt_of_lt_of_le hbl0 HB.out.size
  cases hAe0
  simp only [Nat.zero_mul, Nat.add_zero] at g0 g1 g2 g3 g4 g5
  have HT0 := Lib.hid hT0
  clear hT0
  have HP1 := Lib.hid (H x0 hm0 hls0 hok0 w0 w1 bp r1 k0 a0 s0 n0 A0 la0 cA0 B0 lb0 cB0 HT0.out HTB.out (low_trans HB.out h0 HK1.out) h0 HW1.out HA1.out)
  go_enter Tryz.func22, Tryz.ntmps22
  go_wp2_with fail
  rw [HW.out]
  refine HP1.out.mono ?_
  rintro e w2 ⟨rfl, r2, h1, h2, h3, h4⟩
  have HW2 : Hid (IsW bp r2 w2) := Lib.hid h1; have HA2 := Lib.hid h2; have HC2 := Lib.hid h3; have HK2 := Lib.hid (HK1.out.trans h4); have HX2 := Lib.hid (h4.blk HX1.out hbx.symm neN)
  clear h1 h2 h3 h4 e0 e1 e2 e3 e4 e5 z0 z1 z2 z3 z4 z5 g0 g1 g2 g3 g4 g5
  obtain ⟨⟨e0, e1, e2, e3, e4, e5⟩, z0, z1, z2, z3, z4, z5⟩ := Blk.c6 HX2.out
  have hxl2 := HX2.out.lt
  have HP2 := Lib.hid (putN w2 bp [[32], s, [32]] r2 HW2.out HA2.out (by intro t ht; simp only [List.mem_cons, List.not_mem_nil, or_false] at ht; rcases ht with h | h | h <;> rw [h] <;> first | exact HT.out | simp) (by simp))
  go_wp2_with fail
  refine (show Calls Tryz.prog 34 #[.pointer (some ⟨bp, 0, none⟩), .slice (some ⟨w2.heap.size, 0, none⟩) 3 3] (w2.alloc (.cells #[.string ⟨#[32]⟩, .string ⟨s.toArray⟩, .string ⟨#[32]⟩] 9)) (WrP bp w2 r2 True [[32], s, [32]].flatten) from HP2.out).mono ?_
  rintro e w3 ⟨rfl, r3, h1, h2, h3, h4⟩
  have HW3 : Hid (IsW bp r3 w3) := Lib.hid h1; have HA3 := Lib.hid h2; have HC3 := Lib.hid h3; have HK3 := Lib.hid (HK2.out.trans h4); have HX3 := Lib.hid (h4.blk HX2.out hbx.symm neN)
  clear h1 h2 h3 h4 e0 e1 e2 e3 e4 e5 z0 z1 z2 z3 z4 z5
  obtain ⟨⟨e0, e1, e2, e3, e4, e5⟩, z0, z1, z2, z3, z4, z5⟩ := Blk.c6 HX3.out
  have hxl3 := HX3.out.lt
  obtain ⟨b1, o1, k1, a1, s1, n1, A1, la1, cA1, B1, lb1, cB1, hAe1, hT1, hbl1, g0, g1, g2, g3, g4, g5⟩ := partz_b (low_trans HB.out h0 HK3.out) HL.out HS.out (show (x0 :: x1 :: l)[1]? = some x1 from rfl)
  cases hAe1
  simp only [Nat.one_mul] at g0 g1 g2 g3 g4 g5
  have HT1 := Lib.hid hT1
  clear hT1
  have HP3 := Lib.hid (H x1 hm1 hls1 hok1 w0 w3 bp r3 k1 a1 s1 n1 A1 la1 cA1 B1 lb1 cB1 HT1.out HTB.out (low_trans HB.out h0 HK3.out) h0 HW3.out HA3.out)
  go_wp2_with fail
  refine HP3.out.mono ?_
  rintro e w4 ⟨rfl, r4, h1, h2, h3, h4⟩
  have HW4 : Hid (IsW bp r4 w4) := Lib.hid h1; have HA4 := Lib.hid h2; have HC4 := Lib.hid h3; have HK4 := Lib.hid (HK3.out.trans h4); have HX4 := Lib.hid (h4.blk HX3.out hbx.symm neN)
  clear h1 h2 h3 h4 e0 e1 e2 e3 e4 e5 z0 z1 z2 z3 z4 z5 g0 g1 g2 g3 g4 g5
  have HCUT := Lib.hid (show (shE x0 ∧ shE x1) → Cut r1 (opT dec true x0 ++ ([32] ++ s ++ [32] ++ opT dec true x1)) r4 from fun hp => Cut.eq (((HC2.out hp.1).trans (HC3.out trivial)).trans (HC4.out hp.2)) (by simp))
  go_wp2_with fail
  have hfin : WrP bp w r1 (shE x0 ∧ shE x1) (opT dec true x0 ++ ([32] ++ s ++ [32] ++ opT dec true x1)) (.returned (.tuple #[])) w4 := ⟨rfl, r4, HW4.out, HA4.out, HCUT.out, HK4.out⟩
  first | go_end0 | skip
  all_goals first | exact hfin | exact bodyPost_ret (results_none rfl _ _ _) rfl hfin
set_option maxRecDepth 100000 in
set_option maxHeartbeats 2000000 in
theorem ex_4 (w0 w : World) (bp : Nat) (acc : Bs) {m : Nat} (H : OpW m) (a : Int) (s : Bs) (n : Nat) (A : Option Addr) (l : List Tz) (cA : Nat) (B : Option Addr) (lb cB : Nat) (css : List (List Value)) (x0 : Tz) (hm0 : SizeOf.sizeOf x0 < m) (hls0 : ls x0 = true) (hok0 : okz x0) (x1 : Tz) (hm1 : SizeOf.sizeOf x1 < m) (hls1 : ls x1 = true) (hok1 : okz x1) (hTB : TabP w0) (hb : Below w0.heap.size w0 w) (h0 : w0.heap.size ≤ bp) (h : IsW bp acc w) (ha : acc.length ≤ 1068576) (hs : s.length ≤ 1048576) (hL : Lies w0 A css.flatten) (hS : TsIz w0 (x0 :: x1 :: l) css) (hlm : (x0 :: x1 :: l).length ≤ 9223372036854775807) :
    Calls Tryz.prog 22 #[.pointer (some ⟨bp, 0, none⟩), nzA 4 a s n A (x0 :: x1 :: l).length cA B lb cB] w (WrP bp w acc (shE x0 ∧ shE x1) (opT dec true x0 ++ ([32] ++ s ++ [32] ++ opT dec true x1))) := by
  obtain ⟨w1, hw1, hb1, hX1, hW1, hK1, hbx, hsz⟩ := n_box w (nB 4 a s n A (x0 :: x1 :: l).length cA B lb cB) h
  obtain ⟨r1, hr1⟩ : ∃ r1, acc = r1 := ⟨_, rfl⟩
  rw [hr1] at hW1 ha ⊢
  have HW := Lib.hid hw1; have HX1 := Lib.hid hX1; have HW1 : Hid (IsW bp r1 w1) := Lib.hid hW1; have HK1 := Lib.hid hK1; have HA1 := Lib.hid ha; have HB := Lib.hid hb; have HTB := Lib.hid hTB; have HSZ := Lib.hid hsz
  clear hsz hw1 hX1 hW1 hK1 ha hb hTB hb1 h hr1 acc
  have HT := Lib.hid hs; have HL := Lib.hid hL; have HS := Lib.hid hS
  clear hs hL hS
  obtain ⟨ln, hln⟩ : ∃ ln, (x0 :: x1 :: l).length = ln := ⟨_, rfl⟩
  have hl1 : 1 < ln := by rw [← hln]; simp
  have hl0 : 0 < ln := by omega
  rw [hln] at HX1 HW hlm ⊢
  obtain ⟨⟨e0, e1, e2, e3, e4, e5⟩, z0, z1, z2, z3, z4, z5⟩ := Blk.c6 HX1.out
  have hxl1 := HX1.out.lt
  obtain ⟨b0, o0, k0, a0, s0, n0, A0, la0, cA0, B0, lb0, cB0, hAe0, hT0, hbl0, g0, g1, g2, g3, g4, g5⟩ := partz_b (HB.out) HL.out HS.out (show (x0 :: x1 :: l)[0]? = some x0 from rfl)
  have hbw := Nat.lt_of_lt_of_le hbl0 HB.out.size
  cases hAe0
  simp only [Nat.zero_mul, Nat.add_zero] at g0 g1 g2 g3 g4 g5
  have HT0 := Lib.hid hT0
  clear hT0
  have HP1 := Lib.hid (H x0 hm0 hls0 hok0 w0 w1 bp r1 k0 a0 s0 n0 A0 la0 cA0 B0 lb0 cB0 HT0.out HTB.out (low_trans HB.out h0 HK1.out) h0 HW1.out HA1.out)
  go_enter Tryz.func22, Tryz.ntmps22
  go_wp2_with fail
  rw [HW.out]
  refine HP1.out.mono ?_
  rintro e w2 ⟨rfl, r2, h1, h2, h3, h4⟩
  have HW2 : Hid (IsW bp r2 w2) := Lib.hid h1; have HA2 := Lib.hid h2; have HC2 := Lib.hid h3; have HK2 := Lib.hid (HK1.out.trans h4); have HX2 := Lib.hid (h4.blk HX1.out hbx.symm neN)
  clear h1 h2 h3 h4 e0 e1 e2 e3 e4 e5 z0 z1 z2 z3 z4 z5 g0 g1 g2 g3 g4 g5
  obtain ⟨⟨e0, e1, e2, e3, e4, e5⟩, z0, z1, z2, z3, z4, z5⟩ := Blk.c6 HX2.out
  have hxl2 := HX2.out.lt
  have HP2 := Lib.hid (putN w2 bp [[32], s, [32]] r2 HW2.out HA2.out (by intro t ht; simp only [List.mem_cons, List.not_mem_nil, or_false] at ht; rcases ht with h | h | h <;> rw [h] <;> first | exact HT.out | simp) (by simp))
  go_wp2_with fail
  refine (show Calls Tryz.prog 34 #[.pointer (some ⟨bp, 0, none⟩), .slice (some ⟨w2.heap.size, 0, none⟩) 3 3] (w2.alloc (.cells #[.string ⟨#[32]⟩, .string ⟨s.toArray⟩, .string ⟨#[32]⟩] 9)) (WrP bp w2 r2 True [[32], s, [32]].flatten) from HP2.out).mono ?_
  rintro e w3 ⟨rfl, r3, h1, h2, h3, h4⟩
  have HW3 : Hid (IsW bp r3 w3) := Lib.hid h1; have HA3 := Lib.hid h2; have HC3 := Lib.hid h3; have HK3 := Lib.hid (HK2.out.trans h4); have HX3 := Lib.hid (h4.blk HX2.out hbx.symm neN)
  clear h1 h2 h3 h4 e0 e1 e2 e3 e4 e5 z0 z1 z2 z3 z4 z5
  obtain ⟨⟨e0, e1, e2, e3, e4, e5⟩, z0, z1, z2, z3, z4, z5⟩ := Blk.c6 HX3.out
  have hxl3 := HX3.out.lt
  obtain ⟨b1, o1, k1, a1, s1, n1, A1, la1, cA1, B1, lb1, cB1, hAe1, hT1, hbl1, g0, g1, g2, g3, g4, g5⟩ := partz_b (low_trans HB.out h0 HK3.out) HL.out HS.out (show (x0 :: x1 :: l)[1]? = some x1 from rfl)
  cases hAe1
  simp only [Nat.one_mul] at g0 g1 g2 g3 g4 g5
  have HT1 := Lib.hid hT1
  clear hT1
  have HP3 := Lib.hid (H x1 hm1 hls1 hok1 w0 w3 bp r3 k1 a1 s1 n1 A1 la1 cA1 B1 lb1 cB1 HT1.out HTB.out (low_trans HB.out h0 HK3.out) h0 HW3.out HA3.out)
  go_wp2_with fail
  refine HP3.out.mono ?_
  rintro e w4 ⟨rfl, r4, h1, h2, h3, h4⟩
  have HW4 : Hid (IsW bp r4 w4) := Lib.hid h1; have HA4 := Lib.hid h2; have HC4 := Lib.hid h3; have HK4 := Lib.hid (HK3.out.trans h4); have HX4 := Lib.hid (h4.blk HX3.out hbx.symm neN)
  clear h1 h2 h3 h4 e0 e1 e2 e3 e4 e5 z0 z1 z2 z3 z4 z5 g0 g1 g2 g3 g4 g5
  have HCUT := Lib.hid (show (shE x0 ∧ shE x1) → Cut r1 (opT dec true x0 ++ ([32] ++ s ++ [32] ++ opT dec true x1)) r4 from fun hp => Cut.eq (((HC2.out hp.1).trans (HC3.out trivial)).trans (HC4.out hp.2)) (by simp))
  go_wp2_with fail
  have hfin : WrP bp w r1 (shE x0 ∧ shE x1) (opT dec true x0 ++ ([32] ++ s ++ [32] ++ opT dec true x1)) (.returned (.tuple #[])) w4 := ⟨rfl, r4, HW4.out, HA4.out, HCUT.out, HK4.out⟩
  first | go_end0 | skip
  all_goals first | exact hfin | exact bodyPost_ret (results_none rfl _ _ _) rfl hfin
set_option maxRecDepth 100000 in
set_option maxHeartbeats 2000000 in
theorem ex_5 (w0 w : World) (bp : Nat) (acc : Bs) {m : Nat} (H : ExW m) (a : Int) (s : Bs) (n : Nat) (A : Option Addr) (l : List Tz) (cA : Nat) (B : Option Addr) (lb cB : Nat) (css : List (List Value)) (hTB : TabP w0) (hb : Below w0.heap.size w0 w) (h0 : w0.heap.size ≤ bp) (h : IsW bp acc w) (ha : acc.length ≤ 1068576) (hs : s.length ≤ 1048576) (hL : Lies w0 A css.flatten) (hS : TsIz w0 l css) (hl : l.length ≤ maxLen) (hm : ∀ (i : Nat) (x : Tz), l[i]? = some x → SizeOf.sizeOf x < m) (hls : lss l = true) (hok : okzs l) :
    Calls Tryz.prog 22 #[.pointer (some ⟨bp, 0, none⟩), nzA 5 a s n A l.length cA B lb cB] w (WrP bp w acc (shEs l) (s ++ [40] ++ liT dec [44, 32] false true l ++ [41])) := by
  obtain ⟨w1, hw1, hb1, hX1, hW1, hK1, hbx, hsz⟩ := n_box w (nB 5 a s n A l.length cA B lb cB) h
  obtain ⟨r1, hr1⟩ : ∃ r1, acc = r1 := ⟨_, rfl⟩
  rw [hr1] at hW1 ha ⊢
  have HW := Lib.hid hw1; have HX1 := Lib.hid hX1; have HW1 : Hid (IsW bp r1 w1) := Lib.hid hW1; have HK1 := Lib.hid hK1; have HA1 := Lib.hid ha; have HB := Lib.hid hb; have HTB := Lib.hid hTB; have HSZ := Lib.hid hsz
  clear hsz hw1 hX1 hW1 hK1 ha hb hTB hb1 h hr1 acc
  have HT := Lib.hid hs; have HL := Lib.hid hL; have HS := Lib.hid hS
  clear hs hL hS
  obtain ⟨⟨e0, e1, e2, e3, e4, e5⟩, z0, z1, z2, z3, z4, z5⟩ := Blk.c6 HX1.out
  have hxl1 := HX1.out.lt
  go_enter Tryz.func22, Tryz.ntmps22
  go_wp2_with fail
  rw [HW.out]
  have hpu := putN w1 bp [s, [40]] r1 HW1.out HA1.out (by intro t ht; simp at ht; rcases ht with h | h <;> rw [h] <;> first | exact HT.out | simp) (by simp)
  rw [HSZ.out] at hpu
  have HP1 := Lib.hid hpu
  clear hpu
  refine (show Calls Tryz.prog 34 #[.pointer (some ⟨bp, 0, none⟩), .slice (some ⟨w.heap.size + 1, 0, none⟩) 2 2] (w1.alloc (.cells #[.string ⟨s.toArray⟩, .string ⟨#[40]⟩] 9)) (WrP bp w1 r1 True [s, [40]].flatten) from HP1.out).mono ?_
  rintro e w2 ⟨rfl, r2, h1, h2, h3, h4⟩
  have HW2 : Hid (IsW bp r2 w2) := Lib.hid h1; have HA2 := Lib.hid h2; have HC2 := Lib.hid h3; have HK2 := Lib.hid (HK1.out.trans h4); have HX2 := Lib.hid (h4.blk HX1.out hbx.symm neN)
  clear h1 h2 h3 h4 e0 e1 e2 e3 e4 e5 z0 z1 z2 z3 z4 z5
  obtain ⟨⟨e0, e1, e2, e3, e4, e5⟩, z0, z1, z2, z3, z4, z5⟩ := Blk.c6 HX2.out
  have hxl2 := HX2.out.lt
  have HP2 := Lib.hid (listE H l hm hls hok w0 w2 bp A cA css r2 HL.out HS.out hl HTB.out (low_trans HB.out h0 HK2.out) h0 HW2.out HA2.out)
  clear hl hm hls hok
  go_wp2_with fail
  refine HP2.out.mono ?_
  rintro e w3 ⟨rfl, r3, h1, h2, h3, h4⟩
  have HW3 : Hid (IsW bp r3 w3) := Lib.hid h1; have HA3 := Lib.hid h2; have HC3 := Lib.hid h3; have HK3 := Lib.hid (HK2.out.trans h4); have HX3 := Lib.hid (h4.blk HX2.out hbx.symm neN)
  clear h1 h2 h3 h4 e0 e1 e2 e3 e4 e5 z0 z1 z2 z3 z4 z5
  obtain ⟨⟨e0, e1, e2, e3, e4, e5⟩, z0, z1, z2, z3, z4, z5⟩ := Blk.c6 HX3.out
  have hxl3 := HX3.out.lt
  have HP3 := Lib.hid (putN w3 bp [[41]] r3 HW3.out HA3.out (by simp) (by simp))
  go_wp2_with fail
  refine (show Calls Tryz.prog 34 #[.pointer (some ⟨bp, 0, none⟩), .slice (some ⟨w3.heap.size, 0, none⟩) 1 1] (w3.alloc (.cells #[.string ⟨#[41]⟩] 9)) (WrP bp w3 r3 True [[41]].flatten) from HP3.out).mono ?_
  rintro e w4 ⟨rfl, r4, h1, h2, h3, h4⟩
  have HW4 : Hid (IsW bp r4 w4) := Lib.hid h1; have HA4 := Lib.hid h2; have HC4 := Lib.hid h3; have HK4 := Lib.hid (HK3.out.trans h4); have HX4 := Lib.hid (h4.blk HX3.out hbx.symm neN)
  clear h1 h2 h3 h4 e0 e1 e2 e3 e4 e5 z0 z1 z2 z3 z4 z5
  have HCUT := Lib.hid (show (shEs l) → Cut r1 (s ++ [40] ++ liT dec [44, 32] false true l ++ [41]) r4 from fun hp => Cut.eq (((HC2.out trivial).trans (HC3.out hp)).trans (HC4.out trivial)) (by simp))
  go_wp2_with fail
  have hfin : WrP bp w r1 (shEs l) (s ++ [40] ++ liT dec [44, 32] false true l ++ [41]) (.returned (.tuple #[])) w4 := ⟨rfl, r4, HW4.out, HA4.out, HCUT.out, HK4.out⟩
  first | go_end0 | skip
  all_goals first | exact hfin | exact bodyPost_ret (results_none rfl _ _ _) rfl hfin
set_option maxRecDepth 100000 in
set_option maxHeartbeats 2000000 in
theorem ex_no (w0 w : World) (bp : Nat) (acc : Bs) (k : Int) (a : Int) (s : Bs) (n : Nat) (A : Option Addr) (la cA : Nat) (B : Option Addr) (lb cB : Nat) (hTB : TabP w0) (hb : Below w0.heap.size w0 w) (h0 : w0.heap.size ≤ bp) (h : IsW bp acc w) (ha : acc.length ≤ 1068576) (hk : k ≠ 0 ∧ k ≠ 1 ∧ k ≠ 2 ∧ k ≠ 3 ∧ k ≠ 4 ∧ k ≠ 5) :
    Calls Tryz.prog 22 #[.pointer (some ⟨bp, 0, none⟩), nzA k a s n A la cA B lb cB] w (WrP bp w acc False []) := by
  obtain ⟨w1, hw1, hb1, hX1, hW1, hK1, hbx, hsz⟩ := n_box w (nB k a s n A la cA B lb cB) h
  obtain ⟨r1, hr1⟩ : ∃ r1, acc = r1 := ⟨_, rfl⟩
  rw [hr1] at hW1 ha ⊢
  have HW := Lib.hid hw1; have HX1 := Lib.hid hX1; have HW1 : Hid (IsW bp r1 w1) := Lib.hid hW1; have HK1 := Lib.hid hK1; have HA1 := Lib.hid ha; have HB := Lib.hid hb; have HTB := Lib.hid hTB; have HSZ := Lib.hid hsz
  clear hsz hw1 hX1 hW1 hK1 ha hb hTB hb1 h hr1 acc
  obtain ⟨h0k, h1k, h2k, h3k, h4k, h5k⟩ := hk
  have q0 : (k == 0) = false := by simpa using h0k
  have q1 : (k == 1) = false := by simpa using h1k
  have q2 : (k == 2) = false := by simpa using h2k
  have q3 : (k == 3) = false := by simpa using h3k
  have q4 : (k == 4) = false := by simpa using h4k
  have q5 : (k == 5) = false := by simpa using h5k
  clear h0k h1k h2k h3k h4k h5k
  obtain ⟨⟨e0, e1, e2, e3, e4, e5⟩, z0, z1, z2, z3, z4, z5⟩ := Blk.c6 HX1.out
  have hxl1 := HX1.out.lt
  go_enter Tryz.func22, Tryz.ntmps22
  go_wp2_with fail
  rw [HW.out]
  have hfin : WrP bp w r1 False [] (.returned (.tuple #[])) w1 := ⟨rfl, r1, HW1.out, HA1.out, fun hp => hp.elim, HK1.out⟩
  first | go_end0 | skip
  all_goals first | exact hfin | exact bodyPost_ret (results_none rfl _ _ _) rfl hfin
theorem opW {m : Nat} (H : ExW m) : OpW m := fun z hm hls hok w0 w bp acc k a s n A la cA B lb cB hT hTB hb h0 h ha => by
  have hkz : kz z = k := by
    cases z
    obtain ⟨rfl, _⟩ := tIz_parts hT
    rfl
  have HE := fun (w : World) (acc : Bs) (hb : Below w0.heap.size w0 w) (h : IsW bp acc w) (ha : acc.length ≤ 1068576) => H z hm hls hok w0 w bp acc k a s n A la cA B lb cB hT hTB hb h0 h ha
  by_cases h0k : k = 0
  · exact op_plain w0 w bp acc z k a s n A la cA B lb cB hTB hb h0 h ha HE hkz (.inl h0k)
  by_cases h1k : k = 1
  · exact op_plain w0 w bp acc z k a s n A la cA B lb cB hTB hb h0 h ha HE hkz (.inr (.inl h1k))
  by_cases h5k : k = 5
  · exact op_plain w0 w bp acc z k a s n A la cA B lb cB hTB hb h0 h ha HE hkz (.inr (.inr h5k))
  exact op_par w0 w bp acc z k a s n A la cA B lb cB hTB hb h0 h ha HE hkz h0k h1k h5k
theorem exT_mk (d : Nat → Bs) (k a : Int) (s : Bs) (n : Nat) (ps : List Bs) (l : List Tz) : exT d (.mk k a s n ps l) = if k = 0 then d n else if k = 1 then s else if k = 2 then s ++ liT d [] true true l else if k = 5 then s ++ [40] ++ liT d [44, 32] false true l ++ [41] else liT d ([32] ++ s ++ [32]) true true l := by
  conv => lhs; unfold exT
theorem liT_nil (d : Nat → Bs) (bt : Bs) (op f : Bool) : liT d bt op f [] = [] := by unfold liT; rfl
theorem exw (HF : FmC) : ∀ m, ExW m
  | 0 => fun z h => absurd h (Nat.not_lt_zero _)
  | m + 1 => by
    intro z hm hls hok w0 w bp acc k a s n A la cA B lb cB hT hTB hb h0 h ha
    obtain ⟨k1, a1, s1, n1, ps, l⟩ := z
    obtain ⟨rfl, rfl, rfl, rfl, rfl, rfl, hl, hp, hB, css, hL, hS⟩ := tIz_parts hT
    have hlm : l.length ≤ 9223372036854775807 := hl
    have hmm : ∀ (i : Nat) (x : Tz), l[i]? = some x → SizeOf.sizeOf x < m := fun i x hx => by
      have := size_memz (k := k) (a := a) (n := n) (s := s) (ps := ps) hx
      omega
    unfold okz at hok
    unfold ls at hls
    simp only [Bool.and_eq_true, decide_eq_true_eq] at hls
    have H := exw HF m
    rw [exT_mk]
    by_cases h0k : k = 0
    · subst h0k
      exact (ex_0 w0 w bp acc HF a s n A l.length cA B ps.length cB (dec n) hTB hb h0 h ha rfl hok.2.2.1).mono fun e w' hw => hw.eq (fun _ => trivial) fun _ => rfl
    by_cases h1k : k = 1
    · subst h1k
      exact (ex_1 w0 w bp acc a s n A l.length cA B ps.length cB hTB hb h0 h ha hok.1).mono fun e w' hw => hw.eq (fun _ => trivial) fun _ => rfl
    by_cases h2k : k = 2
    · subst h2k
      cases l with
      | nil => simp [leastV] at hls
      | cons x0 l =>
        have hls0 := lss_at hls.2 (i := 0) (x := x0) rfl
        have hok0 := okzs_at hok.2.2.2 (i := 0) (x := x0) rfl
        refine (ex_2 w0 w bp acc (opW H) a s n A l cA B ps.length cB css x0 (hmm 0 x0 rfl) hls0 hok0 hTB hb h0 h ha hok.1 hL hS hlm).mono fun e w' hw => hw.eq (fun hs => ?_) fun hs => ?_
        · unfold shE shEs at hs
          exact hs.2.1
        · unfold shE at hs
          rcases hs.1 with h | h | ⟨_, h⟩ | ⟨h, _⟩ | h
          · omega
          · omega
          · obtain rfl : l = [] := by simpa using h
            rw [liT_cons, liT_nil]; simp
          · omega
          · omega
    by_cases h34 : k = 3 ∨ k = 4
    · match l, hl, hlm, hmm, hls, hok, hL, hS, hT with
      | [], _, _, _, hls, _, _, _, _ => rcases h34 with rfl | rfl <;> simp [leastV] at hls
      | [_], _, _, _, hls, _, _, _, _ => rcases h34 with rfl | rfl <;> simp [leastV] at hls
      | x0 :: x1 :: l, hl, hlm, hmm, hls, hok, hL, hS, hT =>
        have hls0 := lss_at hls.2 (i := 0) (x := x0) rfl
        have hok0 := okzs_at hok.2.2.2 (i := 0) (x := x0) rfl
        have hls1 := lss_at hls.2 (i := 1) (x := x1) rfl
        have hok1 := okzs_at hok.2.2.2 (i := 1) (x := x1) rfl
        have hE : ∀ k', (k' = 3 ∨ k' = 4) → shE (.mk k' a s n ps (x0 :: x1 :: l)) → (shE x0 ∧ shE x1) ∧ l = [] := fun k' hk' hs => by
          unfold shE shEs shEs at hs
          refine ⟨⟨hs.2.1, hs.2.2.1⟩, ?_⟩
          rcases hs.1 with h | h | ⟨h, _⟩ | ⟨_, h⟩ | h
          · omega
          · omega
          · omega
          · simpa using h
          · omega
        rcases h34 with rfl | rfl
        · exact (ex_3 w0 w bp acc (opW H) a s n A l cA B ps.length cB css x0 (hmm 0 x0 rfl) hls0 hok0 x1 (hmm 1 x1 rfl) hls1 hok1 hTB hb h0 h ha hok.1 hL hS hlm).mono fun e w' hw => hw.eq (fun hs => (hE 3 (.inl rfl) hs).1) fun hs => by
            simp [(hE 3 (.inl rfl) hs).2, liT_cons, liT_nil]
        · exact (ex_4 w0 w bp acc (opW H) a s n A l cA B ps.length cB css x0 (hmm 0 x0 rfl) hls0 hok0 x1 (hmm 1 x1 rfl) hls1 hok1 hTB hb h0 h ha hok.1 hL hS hlm).mono fun e w' hw => hw.eq (fun hs => (hE 4 (.inr rfl) hs).1) fun hs => by
            simp [(hE 4 (.inr rfl) hs).2, liT_cons, liT_nil]
    by_cases h5k : k = 5
    · subst h5k
      exact (ex_5 w0 w bp acc H a s n A l cA B ps.length cB css hTB hb h0 h ha hok.1 hL hS hl hmm hls.2 hok.2.2.2).mono fun e w' hw => hw.eq (fun hs => by unfold shE at hs; exact hs.2) fun _ => rfl
    exact (ex_no w0 w bp acc k a s n A l.length cA B ps.length cB hTB hb h0 h ha ⟨h0k, h1k, h2k, fun h => h34 (.inl h), fun h => h34 (.inr h), h5k⟩).mono fun e w' hw => hw.eq (fun hs => by
      unfold shE at hs
      rcases hs.1 with h | h | ⟨h, _⟩ | ⟨h, _⟩ | h
      · exact h0k h
      · exact h1k h
      · exact h2k h
      · exact h34 h
      · exact h5k h) fun hs => absurd hs fun hs => by
      unfold shE at hs
      rcases hs.1 with h | h | ⟨h, _⟩ | ⟨h, _⟩ | h
      · exact h0k h
      · exact h1k h
      · exact h2k h
      · exact h34 h
      · exact h5k h
end Go.Proofs.YtokfmclbninkmaaGreatDoor.Wr
