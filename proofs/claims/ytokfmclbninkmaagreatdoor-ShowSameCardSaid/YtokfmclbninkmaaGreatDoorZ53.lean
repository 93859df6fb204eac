/- DERIVED. ShWs, ShFt in one text. By an AI agent. -/
import Derived.Test.YtokfmclbninkmaaGreatDoorZ50
import Derived.Test.YtokfmclbninkmaaGreatDoorZ52
/- DERIVED. The law ShowSame. By an AI agent. -/
namespace Go.Proofs.YtokfmclbninkmaaGreatDoor.Sw
open Go Go.ChangeShapes Go.WideShapes Go.ChangeAt Go.RowKit Lx Args Pa Sh Wr Rt Pq
set_option linter.unusedVariables false
set_option linter.unusedSimpArgs false
theorem own : ∀ m, OwR m
  | 0 => fun z h => absurd h (Nat.not_lt_zero _)
  | m + 1 => by
    intro z hm hf w k a s n A la cA B lb cB hT
    obtain ⟨k1, a1, s1, n1, ps, l⟩ := z
    obtain ⟨rfl, rfl, rfl, rfl, rfl, rfl, hl, hp, hLB, css, hL, hS⟩ := tIz_parts hT
    have hmm : ∀ (i : Nat) (x : Tz), l[i]? = some x → SizeOf.sizeOf x < m := fun i x h => by
      have := size_memz (k := k) (a := a) (n := n) (s := s) (ps := ps) h
      omega
    unfold fz at hf
    unfold owz
    exact ow_n (own m) w k a s n A l cA B cB ps css hL hS hl hf.1 hf.2.1 hf.2.2 hmm hLB
set_option maxRecDepth 100000 in
set_option maxHeartbeats 4000000 in
theorem walkS (w : World) (za : Tz) (ca : List Value) (zb : Tz) (cb : List Value) (hTa : TIc True w za ca) (hTb : TIc True w zb cb) (hfa : fz za) (hTB : TabP w) :
    Calls Tryz.prog 5 #[.agg ca.toArray, .agg cb.toArray] w fun e w' => e = .returned (.bool true) ∧ Below w.heap.size w w' := by
  obtain ⟨k, a, s, n, A, la, cA, B, lb, cB, rfl⟩ := tIz_cells hTa
  obtain ⟨kb, ab, sb, nb, Ab, lab, cAb, Bb, lbb, cBb, rfl⟩ := tIz_cells hTb
  have hTa := tIz_weak hTa
  have hTb := tIz_weak hTb
  show Calls Tryz.prog 5 #[nzA k a s n A la cA B lb cB, nzA kb ab sb nb Ab lab cAb Bb lbb cBb] w _
  obtain ⟨w1, hw1, hb1, hX1⟩ := a_box w (nB k a s n A la cA B lb cB)
  obtain ⟨w2, hw2, hb2, hY2⟩ := a_box w1 (nB kb ab sb nb Ab lab cAb Bb lbb cBb)
  have hs1 : w1.heap.size = w.heap.size + 1 := by rw [← hw1]; simp
  have hX2 := hX1.below hb2 hX1.lt
  have hb02 := hb1.trans (hb2.mono hb1.size)
  rw [hs1] at hY2
  have HTA := Lib.hid fun v (hb : Below w.heap.size w v) => TIz.below hb hTa
  have HTBB := Lib.hid fun v (hb : Below w.heap.size w v) => TIz.below hb hTb
  have HLI := Lib.hid fun v (hb : Below w.heap.size w v) => lives v (tab_below hTB hb)
  have HF := Lib.hid hfa
  have HX2 := Lib.hid hX2; have HY2 := Lib.hid hY2; have HB2 := Lib.hid hb02; have HW1 := Lib.hid hw1; have HW2 := Lib.hid hw2
  have HSA := Lib.hid (small za w2 k a s n A la cA B lb cB (HTA.out w2 hb02))
  obtain ⟨⟨e0, e1, e2, e3, e4, e5⟩, z0, z1, z2, z3, z4, z5⟩ := Blk.c6 hX2
  obtain ⟨⟨f0, f1, f2, f3, f4, f5⟩, y0, y1, y2, y3, y4, y5⟩ := Blk.c6 hY2
  have hxl := hX2.lt
  have hyl := hY2.lt
  obtain ⟨sma, hsma⟩ : ∃ sm, decide (pa 300 3000 za ≤ 3000) = sm := ⟨_, rfl⟩
  rw [hsma] at HSA
  clear hTa hTb hTB hfa hw1 hw2 hb1 hb2 hX1 hX2 hY2 hb02 hsma
  go_enter Tryz.func5, Tryz.ntmps5
  go_wp2_with fail
  rw [HW1.out, HW2.out]
  refine (show Calls Tryz.prog 6 #[nzA k a s n A la cA B lb cB] w2 _ from HSA.out).mono ?_
  rintro e w3 ⟨rfl, hb3⟩
  have HX3 := Lib.hid (HX2.out.below hb3 hxl); have HY3 := Lib.hid (HY2.out.below hb3 hyl); have HB3 := Lib.hid (HB2.out.trans (hb3.mono HB2.out.size))
  clear e0 e1 e2 e3 e4 e5 z0 z1 z2 z3 z4 z5 f0 f1 f2 f3 f4 f5 y0 y1 y2 y3 y4 y5 hb3 HSA HX2 HY2 HW1 HW2
  have hxl3 := HX3.out.lt
  have hyl3 := HY3.out.lt
  obtain ⟨⟨e0, e1, e2, e3, e4, e5⟩, z0, z1, z2, z3, z4, z5⟩ := Blk.c6 HX3.out
  obtain ⟨⟨f0, f1, f2, f3, f4, f5⟩, y0, y1, y2, y3, y4, y5⟩ := Blk.c6 HY3.out
  cases sma with
  | false =>
    have HL := Lib.hid (HLI.out w3 HB3.out)
    go_wp2_with fail
    refine HL.out.mono ?_
    rintro e w4 ⟨rfl, hb4⟩
    have HB4 := Lib.hid (HB3.out.trans (hb4.mono HB3.out.size))
    clear hb4
    go_wp2_with fail
    go_ret
    exact ⟨rfl, HB4.out⟩
  | true =>
  have HSB := Lib.hid (small zb w3 kb ab sb nb Ab lab cAb Bb lbb cBb (HTBB.out w3 HB3.out))
  obtain ⟨smb, hsmb⟩ : ∃ sm, decide (pa 300 3000 zb ≤ 3000) = sm := ⟨_, rfl⟩
  rw [hsmb] at HSB
  clear hsmb
  go_wp2_with fail
  refine (show Calls Tryz.prog 6 #[nzA kb ab sb nb Ab lab cAb Bb lbb cBb] w3 _ from HSB.out).mono ?_
  rintro e w4 ⟨rfl, hb4⟩
  have HX4 := Lib.hid (HX3.out.below hb4 hxl3); have HY4 := Lib.hid (HY3.out.below hb4 hyl3); have HB4 := Lib.hid (HB3.out.trans (hb4.mono HB3.out.size))
  clear e0 e1 e2 e3 e4 e5 z0 z1 z2 z3 z4 z5 f0 f1 f2 f3 f4 f5 y0 y1 y2 y3 y4 y5 hb4 HSB HX3 HY3
  cases smb with
  | false =>
    have HL := Lib.hid (HLI.out w4 HB4.out)
    go_wp2_with fail
    refine HL.out.mono ?_
    rintro e w5 ⟨rfl, hb5⟩
    have HB5 := Lib.hid (HB4.out.trans (hb5.mono HB4.out.size))
    clear hb5
    go_wp2_with fail
    go_ret
    exact ⟨rfl, HB5.out⟩
  | true =>
    go_wp2_with fail
    have hdr : Below w4.heap.size w4 w4.drew := Below.drew (Below.refl _ _)
    obtain ⟨wd, hwd⟩ : ∃ v, w4.drew = v := ⟨_, rfl⟩
    rw [hwd] at hdr
    have HXd := Lib.hid (HX4.out.below hdr HX4.out.lt); have HYd := Lib.hid (HY4.out.below hdr HY4.out.lt); have HBd := Lib.hid (HB4.out.trans (hdr.mono HB4.out.size))
    clear hdr HX4 HY4 HB4
    have hZ0 : Below wd.heap.size wd wd := Below.refl _ _
    have HS1 := Lib.hid (psame (SizeOf.sizeOf za + 1) za zb (Nat.lt_succ_self _) wd k a s n A la cA B lb cB kb ab sb nb Ab lab cAb Bb lbb cBb (HTA.out wd HBd.out) (HTBB.out wd HBd.out))
    have HS2 := Lib.hid fun v (hb : Below w.heap.size w v) => rsameB (SizeOf.sizeOf za + 1) za zb (Nat.lt_succ_self _) v k a s n A la cA B lb cB kb ab sb nb Ab lab cAb Bb lbb cBb (HTA.out v hb) (HTBB.out v hb)
    have HOW := Lib.hid fun v (hb : Below w.heap.size w v) => own (SizeOf.sizeOf za + 1) za (Nat.lt_succ_self _) HF.out v k a s n A la cA B lb cB (HTA.out v hb)
    obtain ⟨res, hres⟩ : ∃ res, sameB za zb = res := ⟨_, rfl⟩
    rw [hres] at HS1 HS2
    clear hres
    refine HT.wp_region (Z := fun w' => Below wd.heap.size wd w') (S := fun _ => True) (st := []) (by kernel_rfl) ?_
    rw [hwd]
    clear hwd
    refine HT.takeP (i := 0) (v := ?_) rfl (by kernel_rfl) (by kernel_rfl) (by kernel_rfl) (by kernel_rfl) (fun _ _ _ h => h) (Or.inl ⟨by rfl, ?_⟩) hZ0 (fun _ => trivial) ?_
    rotate_left
    · (intro v hSw; have hA := HXd.out.below hSw HXd.out.lt; have hB := HYd.out.below hSw HYd.out.lt; obtain ⟨⟨e0, e1, e2, e3, e4, e5⟩, z0, z1, z2, z3, z4, z5⟩ := Blk.c6 hA; obtain ⟨⟨f0, f1, f2, f3, f4, f5⟩, y0, y1, y2, y3, y4, y5⟩ := Blk.c6 hB; clear hSw hA hB; go_simp; try with_reducible rfl)
    (try simp only [Act.put, List.getElem_toArray, List.getElem_cons_succ, List.getElem_cons_zero, List.setIfInBounds_toArray, List.set_cons_zero, List.set_cons_succ])
    refine HT.takeP (i := 1) (v := ?_) rfl (by kernel_rfl) (by kernel_rfl) (by kernel_rfl) (by kernel_rfl) (fun _ _ _ h => h) (Or.inl ⟨by rfl, ?_⟩) hZ0 (fun _ => trivial) ?_
    rotate_left
    · (intro v hSw; have hA := HXd.out.below hSw HXd.out.lt; have hB := HYd.out.below hSw HYd.out.lt; obtain ⟨⟨e0, e1, e2, e3, e4, e5⟩, z0, z1, z2, z3, z4, z5⟩ := Blk.c6 hA; obtain ⟨⟨f0, f1, f2, f3, f4, f5⟩, y0, y1, y2, y3, y4, y5⟩ := Blk.c6 hB; clear hSw hA hB; go_simp; try with_reducible rfl)
    (try simp only [Act.put, List.getElem_toArray, List.getElem_cons_succ, List.getElem_cons_zero, List.setIfInBounds_toArray, List.set_cons_zero, List.set_cons_succ])
    refine HT.takeP (i := 3) (v := ?_) rfl (by kernel_rfl) (by kernel_rfl) (by kernel_rfl) (by kernel_rfl) (fun _ _ _ h => h) (Or.inl ⟨by rfl, ?_⟩) hZ0 (fun _ => trivial) ?_
    rotate_left
    · (intro v hSw; have hA := HXd.out.below hSw HXd.out.lt; have hB := HYd.out.below hSw HYd.out.lt; obtain ⟨⟨e0, e1, e2, e3, e4, e5⟩, z0, z1, z2, z3, z4, z5⟩ := Blk.c6 hA; obtain ⟨⟨f0, f1, f2, f3, f4, f5⟩, y0, y1, y2, y3, y4, y5⟩ := Blk.c6 hB; clear hSw hA hB; go_simp; try with_reducible rfl)
    (try simp only [Act.put, List.getElem_toArray, List.getElem_cons_succ, List.getElem_cons_zero, List.setIfInBounds_toArray, List.set_cons_zero, List.set_cons_succ])
    refine HT.takeP (i := 4) (v := ?_) rfl (by kernel_rfl) (by kernel_rfl) (by kernel_rfl) (by kernel_rfl) (fun _ _ _ h => h) (Or.inl ⟨by rfl, ?_⟩) hZ0 (fun _ => trivial) ?_
    rotate_left
    · (intro v hSw; have hA := HXd.out.below hSw HXd.out.lt; have hB := HYd.out.below hSw HYd.out.lt; obtain ⟨⟨e0, e1, e2, e3, e4, e5⟩, z0, z1, z2, z3, z4, z5⟩ := Blk.c6 hA; obtain ⟨⟨f0, f1, f2, f3, f4, f5⟩, y0, y1, y2, y3, y4, y5⟩ := Blk.c6 hB; clear hSw hA hB; go_simp; try with_reducible rfl)
    (try simp only [Act.put, List.getElem_toArray, List.getElem_cons_succ, List.getElem_cons_zero, List.setIfInBounds_toArray, List.set_cons_zero, List.set_cons_succ])
    refine HT.one (i := 2) (by kernel_rfl) rfl (fun K hK => ?_)
    go_simp
    refine (show Calls Tryz.prog 12 #[nzA k a s n A la cA B lb cB, nzA kb ab sb nb Ab lab cAb Bb lbb cBb] wd _ from HS1.out).mono ?_
    rintro e w5 ⟨rfl, hb5⟩
    have HS5 := Lib.hid (HS2.out w5 (HBd.out.trans (hb5.mono HBd.out.size)))
    dsimp only
    refine hK.out _ _ hb5 trivial ?_
    clear hK K
    (try simp only [Act.put, List.getElem_toArray, List.getElem_cons_succ, List.getElem_cons_zero, List.setIfInBounds_toArray, List.set_cons_zero, List.set_cons_succ])
    refine HT.one (i := 5) (by kernel_rfl) rfl (fun K hK => ?_)
    go_simp
    refine (show Calls Tryz.prog 13 #[nzA k a s n A la cA B lb cB, nzA kb ab sb nb Ab lab cAb Bb lbb cBb, .bool false] w5 _ from HS5.out).mono ?_
    rintro e w6 ⟨rfl, hb6⟩
    have hz6 : Below wd.heap.size wd w6 := hb5.trans (hb6.mono hb5.size)
    have HO6 := Lib.hid (HOW.out w6 (HBd.out.trans (hz6.mono HBd.out.size)))
    dsimp only
    refine hK.out _ _ hz6 trivial ?_
    clear hK K hb5 hb6
    (try simp only [Act.put, List.getElem_toArray, List.getElem_cons_succ, List.getElem_cons_zero, List.setIfInBounds_toArray, List.set_cons_zero, List.set_cons_succ])
    refine HT.takeP (i := 6) (v := ?_) rfl (by kernel_rfl) (by kernel_rfl) (by kernel_rfl) (by kernel_rfl) (fun _ _ _ h => h) (Or.inl ⟨by rfl, ?_⟩) hz6 (fun _ => trivial) ?_
    rotate_left
    · (intro v hSw; have hA := HXd.out.below hSw HXd.out.lt; have hB := HYd.out.below hSw HYd.out.lt; obtain ⟨⟨e0, e1, e2, e3, e4, e5⟩, z0, z1, z2, z3, z4, z5⟩ := Blk.c6 hA; obtain ⟨⟨f0, f1, f2, f3, f4, f5⟩, y0, y1, y2, y3, y4, y5⟩ := Blk.c6 hB; clear hSw hA hB; go_simp; try with_reducible rfl)
    (try simp only [Act.put, List.getElem_toArray, List.getElem_cons_succ, List.getElem_cons_zero, List.setIfInBounds_toArray, List.set_cons_zero, List.set_cons_succ])
    refine HT.takeP (i := 7) (v := ?_) rfl (by kernel_rfl) (by kernel_rfl) (by kernel_rfl) (by kernel_rfl) (fun _ _ _ h => h) (Or.inl ⟨by rfl, ?_⟩) hz6 (fun _ => trivial) ?_
    rotate_left
    · (intro v hSw; have hA := HXd.out.below hSw HXd.out.lt; have hB := HYd.out.below hSw HYd.out.lt; obtain ⟨⟨e0, e1, e2, e3, e4, e5⟩, z0, z1, z2, z3, z4, z5⟩ := Blk.c6 hA; obtain ⟨⟨f0, f1, f2, f3, f4, f5⟩, y0, y1, y2, y3, y4, y5⟩ := Blk.c6 hB; clear hSw hA hB; go_simp; try with_reducible rfl)
    (try simp only [Act.put, List.getElem_toArray, List.getElem_cons_succ, List.getElem_cons_zero, List.setIfInBounds_toArray, List.set_cons_zero, List.set_cons_succ])
    refine HT.takeP (i := 8) (v := ?_) rfl (by kernel_rfl) (by kernel_rfl) (by kernel_rfl) (by kernel_rfl) (fun _ _ _ h => h) (Or.inl ⟨by rfl, ?_⟩) hz6 (fun _ => trivial) ?_
    rotate_left
    · (intro v hSw; have hA := HXd.out.below hSw HXd.out.lt; have hB := HYd.out.below hSw HYd.out.lt; obtain ⟨⟨e0, e1, e2, e3, e4, e5⟩, z0, z1, z2, z3, z4, z5⟩ := Blk.c6 hA; obtain ⟨⟨f0, f1, f2, f3, f4, f5⟩, y0, y1, y2, y3, y4, y5⟩ := Blk.c6 hB; clear hSw hA hB; go_simp; try with_reducible rfl)
    (try simp only [Act.put, List.getElem_toArray, List.getElem_cons_succ, List.getElem_cons_zero, List.setIfInBounds_toArray, List.set_cons_zero, List.set_cons_succ])
    refine HT.takeP (i := 9) (v := ?_) rfl (by kernel_rfl) (by kernel_rfl) (by kernel_rfl) (by kernel_rfl) (fun _ _ _ h => h) (Or.inl ⟨by rfl, ?_⟩) hz6 (fun _ => trivial) ?_
    rotate_left
    · (intro v hSw; have hA := HXd.out.below hSw HXd.out.lt; have hB := HYd.out.below hSw HYd.out.lt; obtain ⟨⟨e0, e1, e2, e3, e4, e5⟩, z0, z1, z2, z3, z4, z5⟩ := Blk.c6 hA; obtain ⟨⟨f0, f1, f2, f3, f4, f5⟩, y0, y1, y2, y3, y4, y5⟩ := Blk.c6 hB; clear hSw hA hB; go_simp; try with_reducible rfl)
    (try simp only [Act.put, List.getElem_toArray, List.getElem_cons_succ, List.getElem_cons_zero, List.setIfInBounds_toArray, List.set_cons_zero, List.set_cons_succ])
    refine HT.one (i := 10) (by kernel_rfl) rfl (fun K hK => ?_)
    go_simp
    refine (show Calls Tryz.prog 14 #[nzA k a s n A la cA B lb cB] w6 _ from HO6.out).mono ?_
    rintro e w7 ⟨A2, la2, cA2, B2, lb2, cB2, rfl, hT7, hb7⟩
    have hz7 : Below wd.heap.size wd w7 := hz6.trans (hb7.mono hz6.size)
    have hs7 := psame (SizeOf.sizeOf za + 1) za (owz za) (Nat.lt_succ_self _) w7 k a s n A la cA B lb cB k 0 s n A2 la2 cA2 B2 lb2 cB2 (HTA.out w7 (HBd.out.trans (hz7.mono HBd.out.size))) (tZn_z hT7)
    rw [owz_same] at hs7
    have HS7 := Lib.hid hs7
    dsimp only
    refine hK.out _ _ hz7 trivial ?_
    clear hK K hb7 hT7 hs7
    (try simp only [Act.put, List.getElem_toArray, List.getElem_cons_succ, List.getElem_cons_zero, List.setIfInBounds_toArray, List.set_cons_zero, List.set_cons_succ])
    refine HT.one (i := 11) (by kernel_rfl) rfl (fun K hK => ?_)
    go_simp
    refine (show Calls Tryz.prog 12 #[nzA k a s n A la cA B lb cB, nzA k 0 s n A2 la2 cA2 B2 lb2 cB2] w7 _ from HS7.out).mono ?_
    rintro e w8 ⟨rfl, hb8⟩
    have hz8 : Below wd.heap.size wd w8 := hz7.trans (hb8.mono hz7.size)
    have HL8 := Lib.hid (HLI.out w8 (HBd.out.trans (hz8.mono HBd.out.size)))
    dsimp only
    refine hK.out _ _ hz8 trivial ?_
    clear hK K hb8
    (try simp only [Act.put, List.getElem_toArray, List.getElem_cons_succ, List.getElem_cons_zero, List.setIfInBounds_toArray, List.set_cons_zero, List.set_cons_succ])
    refine HT.takeP (i := 12) (v := ?_) rfl (by kernel_rfl) (by kernel_rfl) (by kernel_rfl) (by kernel_rfl) (fun _ _ _ h => h) (Or.inl ⟨by rfl, ?_⟩) hz8 (fun _ => trivial) ?_
    rotate_left
    · (intro v hSw; have hA := HXd.out.below hSw HXd.out.lt; have hB := HYd.out.below hSw HYd.out.lt; obtain ⟨⟨e0, e1, e2, e3, e4, e5⟩, z0, z1, z2, z3, z4, z5⟩ := Blk.c6 hA; obtain ⟨⟨f0, f1, f2, f3, f4, f5⟩, y0, y1, y2, y3, y4, y5⟩ := Blk.c6 hB; clear hSw hA hB; go_simp; try with_reducible rfl)
    (try simp only [Act.put, List.getElem_toArray, List.getElem_cons_succ, List.getElem_cons_zero, List.setIfInBounds_toArray, List.set_cons_zero, List.set_cons_succ])
    refine HT.takeP (i := 13) (v := ?_) rfl (by kernel_rfl) (by kernel_rfl) (by kernel_rfl) (by kernel_rfl) (fun _ _ _ h => h) (Or.inl ⟨by rfl, ?_⟩) hz8 (fun _ => trivial) ?_
    rotate_left
    · (intro v hSw; have hA := HXd.out.below hSw HXd.out.lt; have hB := HYd.out.below hSw HYd.out.lt; obtain ⟨⟨e0, e1, e2, e3, e4, e5⟩, z0, z1, z2, z3, z4, z5⟩ := Blk.c6 hA; obtain ⟨⟨f0, f1, f2, f3, f4, f5⟩, y0, y1, y2, y3, y4, y5⟩ := Blk.c6 hB; clear hSw hA hB; go_simp; try with_reducible rfl)
    (try simp only [Act.put, List.getElem_toArray, List.getElem_cons_succ, List.getElem_cons_zero, List.setIfInBounds_toArray, List.set_cons_zero, List.set_cons_succ])
    refine HT.one (i := 14) (by kernel_rfl) rfl (fun K hK => ?_)
    go_simp
    refine HL8.out.mono ?_
    rintro e w9 ⟨rfl, hb9⟩
    have hz9 : Below wd.heap.size wd w9 := hz8.trans (hb9.mono hz8.size)
    dsimp only
    refine hK.out _ _ hz9 trivial ?_
    clear hK K hb9
    (try simp only [Act.put, List.getElem_toArray, List.getElem_cons_succ, List.getElem_cons_zero, List.setIfInBounds_toArray, List.set_cons_zero, List.set_cons_succ])
    refine HT.takeP (i := 15) (v := ?_) rfl (by kernel_rfl) (by kernel_rfl) (by kernel_rfl) (by kernel_rfl) (fun _ _ _ h => h) (Or.inl ⟨by rfl, ?_⟩) hz9 (fun _ => trivial) ?_
    rotate_left
    · (intro v hSw; have hA := HXd.out.below hSw HXd.out.lt; have hB := HYd.out.below hSw HYd.out.lt; obtain ⟨⟨e0, e1, e2, e3, e4, e5⟩, z0, z1, z2, z3, z4, z5⟩ := Blk.c6 hA; obtain ⟨⟨f0, f1, f2, f3, f4, f5⟩, y0, y1, y2, y3, y4, y5⟩ := Blk.c6 hB; clear hSw hA hB; go_simp; try with_reducible rfl)
    (try simp only [Act.put, List.getElem_toArray, List.getElem_cons_succ, List.getElem_cons_zero, List.setIfInBounds_toArray, List.set_cons_zero, List.set_cons_succ])
    refine HT.takeP (i := 16) (v := ?_) rfl (by kernel_rfl) (by kernel_rfl) (by kernel_rfl) (by kernel_rfl) (fun _ _ _ h => h) (Or.inl ⟨by rfl, ?_⟩) hz9 (fun _ => trivial) ?_
    rotate_left
    · (intro v hSw; have hA := HXd.out.below hSw HXd.out.lt; have hB := HYd.out.below hSw HYd.out.lt; obtain ⟨⟨e0, e1, e2, e3, e4, e5⟩, z0, z1, z2, z3, z4, z5⟩ := Blk.c6 hA; obtain ⟨⟨f0, f1, f2, f3, f4, f5⟩, y0, y1, y2, y3, y4, y5⟩ := Blk.c6 hB; clear hSw hA hB; go_simp; try with_reducible rfl)
    (try simp only [Act.put, List.getElem_toArray, List.getElem_cons_succ, List.getElem_cons_zero, List.setIfInBounds_toArray, List.set_cons_zero, List.set_cons_succ])
    refine HT.done (by kernel_rfl) ?_
    have HEND := Lib.hid (HBd.out.trans (hz9.mono HBd.out.size))
    (try dsimp only [Exit.then])
    go_wp2_with fail
    go_ret
    exact ⟨rfl, HEND.out⟩
end Go.Proofs.YtokfmclbninkmaaGreatDoor.Sw
/- DERIVED. A tree that came in by value, each of whose slices is within reach. By an AI agent. -/
namespace Go.Proofs.YtokfmclbninkmaaGreatDoor.Sw
open Go Go.ChangeShapes Go.WideShapes Go.ChangeAt Go.RowKit Lx Args Pa Sh
set_option linter.unusedVariables false
set_option linter.unusedSimpArgs false
theorem bNd : Tryz.prog.bytesOf 26 = 88 := by kernel_rfl
theorem bSt : Tryz.prog.bytesOf 9 = 16 := by kernel_rfl
section
variable {H : Type} {enc : TypeId × Value → H} {w : World} {base : Nat} {spare : Nat → Bool} {held : Bool}
theorem fit_one {P : Program} {t : TypeId} {ts : List TypeId} {d : DataW H} {ds : List (DataW H)} (h : (DataW.weightsEach P (t :: ts) (d :: ds)).all (· ≤ reachBytes) = true) :
    (d.weights P t).all (· ≤ reachBytes) = true ∧ (DataW.weightsEach P ts ds).all (· ≤ reachBytes) = true := by
  simp only [DataW.weightsEach, List.all_append, Bool.and_eq_true] at h
  exact h
theorem fit_each {P : Program} {e : TypeId} : ∀ {ds : List (DataW H)} {d : DataW H}, (DataW.weightsAll P e ds).all (· ≤ reachBytes) = true → d ∈ ds → (d.weights P e).all (· ≤ reachBytes) = true
  | [], _, _, hd => by cases hd
  | x :: r, d, h, hd => by
    simp only [DataW.weightsAll, List.all_append, Bool.and_eq_true] at h
    rcases List.mem_cons.1 hd with rfl | hd
    · exact h.1
    · exact fit_each h.2 hd
theorem nodes_fit {n len : Nat} {a : Addr} {elems : List (DataW H × List MemPlace)} (hlen : elems.length = len)
    (hel : ∀ i, i < len → (w.cells? base (a.add (i * 6)) 6).bind (DataW.trod enc Tryz.prog w base spare held n 26) = elems[i]?)
    (hw : (DataW.weightsAll Tryz.prog 26 (elems.map (·.1))).all (· ≤ reachBytes) = true)
    (IH : ∀ (cs : List Value) (x : DataW H × List MemPlace), DataW.trod enc Tryz.prog w base spare held n 26 cs = some x → (x.1.weights Tryz.prog 26).all (· ≤ reachBytes) = true → ∃ z, TIc True w z cs ∧ fz z) :
    ∀ m i, i + m = len → ∃ (l : List Tz) (css : List (List Value)), l.length = m ∧ (TsIc True w l css ∧ fzs l) ∧ (∀ j u, css.flatten[j]? = some u → w.cell? (a.add (i * 6 + j)) = some u) := by
  intro m
  induction m with
  | zero => intro i hi; exact ⟨[], [], rfl, ⟨by unfold TsIc; rfl, trivial⟩, fun j u h => by simp at h⟩
  | succ m ih =>
    intro i hi
    obtain ⟨l, css, h1, ⟨hT, hN⟩, h2⟩ := ih (i + 1) (by omega)
    have h := hel i (by omega)
    have hei : elems[i]? = some (elems[i]'(by omega)) := List.getElem?_eq_getElem (by omega)
    rw [hei, Option.bind_eq_some_iff] at h
    obtain ⟨c1, hc1, ht1⟩ := h
    obtain ⟨hcb, hcl, hat⟩ := World.cells?_some hc1
    have hwt := fit_each hw (List.mem_map_of_mem (f := fun y : DataW H × List MemPlace => y.1) (List.getElem_mem (show i < elems.length by omega)))
    obtain ⟨z, hz, hn⟩ := IH c1 _ ht1 hwt
    refine ⟨z :: l, c1 :: css, by simp [h1], ⟨by unfold TsIc; exact ⟨c1, css, rfl, hz, hT⟩, by unfold fzs; exact ⟨hn, hN⟩⟩, fun j u hj => ?_⟩
    · rw [List.flatten_cons] at hj
      by_cases h6 : j < 6
      · rw [List.getElem?_append_left (by omega)] at hj
        have a0 := hat j (by omega)
        rw [add_add] at a0
        rw [← hj]
        exact a0
      · rw [List.getElem?_append_right (by omega), hcl] at hj
        have := h2 _ u hj
        rw [show i * 6 + j = (i + 1) * 6 + (j - 6) by omega]
        exact this
set_option maxRecDepth 100000 in
/-- What lies in a node's cells, and that it is within reach. -/
theorem node_fit : ∀ (fuel : Nat) (cs : List Value) (x : DataW H × List MemPlace), DataW.trod enc Tryz.prog w base spare held fuel 26 cs = some x → (x.1.weights Tryz.prog 26).all (· ≤ reachBytes) = true → ∃ z, TIc True w z cs ∧ fz z := by
  intro fuel
  induction fuel using Nat.strongRecOn with
  | ind fuel IH =>
    intro cs x h hs
    obtain ⟨xs, n, hn, hx, hlen, hxl, hg⟩ := DataW.trod_struct Tryz.underlying26 h
    rw [cNd] at hlen
    match cs, hlen, xs, hxl with
    | [q0, q1, q2, q3, q4, q5], _, [y0, y1, y2, y3, y4, y5], _ =>
      have g0 := hg 0 _ rfl; have g1 := hg 1 _ rfl; have g2 := hg 2 _ rfl; have g3 := hg 3 _ rfl; have g4 := hg 4 _ rfl; have g5 := hg 5 _ rfl
      simp [cIn, cSt, cU, cSl, cSs] at g0 g1 g2 g3 g4 g5
      obtain ⟨k, e0, d0, wk⟩ := DataW.trod_int uIn g0
      obtain ⟨s, e1, d1, _⟩ := DataW.trod_string uSt g1
      obtain ⟨v, e2, d2, wv⟩ := DataW.trod_int uU g2
      obtain ⟨a, e3, d3, wa⟩ := DataW.trod_int uIn g3
      simp only [List.cons.injEq, and_true] at e0 e1 e2 e3
      subst e0 e1 e2 e3
      have hv := bounds_u32 wv
      obtain ⟨m, rfl⟩ : ∃ m : Nat, v = (m : Int) := ⟨v.toNat, by omega⟩
      rw [hx] at hs
      simp only [DataW.weights, Tryz.underlying26, DataW.weightsEach, List.map_cons, List.map_nil, List.all_append, Bool.and_eq_true] at hs
      obtain ⟨_, _, _, _, hs4, hs5, _⟩ := hs
      have hS : ∃ (l : List Tz) (A : Option Addr) (cA : Nat) (css : List (List Value)), q4 = .slice A l.length cA ∧ l.length ≤ maxLen ∧ Lies w A css.flatten ∧ TsIc True w l css ∧ (l.length ≤ cA ∧ cA ≤ maxLen) ∧ fzs l ∧ l.length * 88 ≤ 140737488351232 := by
        rcases DataW.trod_slice uSl g4 with ⟨e, _⟩ | ⟨a, len, cap, elems, rest, n', hn', e, hy, hbl, hl, hm, hle, hel, hsp, hns⟩
        · simp only [List.cons.injEq, and_true] at e
          subst e
          exact ⟨[], none, 0, [], rfl, by decide, Lies.nil _ _, by unfold TsIc; rfl, ⟨Nat.le_refl _, by decide⟩, trivial, by decide⟩
        · simp only [List.cons.injEq, and_true] at e
          subst e
          rw [cNd] at hel
          rw [hy] at hs4
          simp only [DataW.weights, uSl, List.all_cons, List.all_append, Bool.and_eq_true, decide_eq_true_eq, bNd, List.length_map] at hs4
          obtain ⟨hw1, hw2, _⟩ := hs4
          unfold reachBytes at hw1
          obtain ⟨l, css, h1, ⟨h2, hN⟩, h3⟩ := nodes_fit hle hel hw2 (IH n' (by omega)) len 0 (by omega)
          refine ⟨l, some a, cap, css, by rw [h1], by omega, fun j u hj => ⟨a, rfl, ?_⟩, h2, ⟨by omega, hm⟩, hN, ?_⟩
          · have := h3 j u hj
            rwa [show 0 * 6 + j = j by omega] at this
          · have := Nat.mul_le_mul_right 88 (show l.length ≤ elems.length + rest.length by omega)
            omega
      have hP : ∃ (ps : List Bs) (B : Option Addr) (cB : Nat), q5 = .slice B ps.length cB ∧ ps.length ≤ maxLen ∧ Lies w B (ps.map strV) ∧ ps.length * 16 ≤ 140737488351232 := by
        rcases DataW.trod_slice uSs g5 with ⟨e, _⟩ | ⟨a, len, cap, elems, rest, n', hn', e, hy, hbl, hl, hm, hle, hel, hsp, hns⟩
        · simp only [List.cons.injEq, and_true] at e
          subst e
          exact ⟨[], none, 0, rfl, by decide, Lies.nil _ _, by decide⟩
        · simp only [List.cons.injEq, and_true] at e
          subst e
          rw [cSt] at hel
          rw [hy] at hs5
          simp only [DataW.weights, uSs, List.all_cons, List.all_append, Bool.and_eq_true, decide_eq_true_eq, bSt, List.length_map] at hs5
          obtain ⟨hw1, _, _⟩ := hs5
          unfold reachBytes at hw1
          obtain ⟨ps, h1, h3, h4⟩ := strs_in hle hel len 0 (by omega)
          refine ⟨ps, some a, cap, by rw [h1], by omega, fun j u hj => ⟨a, rfl, ?_⟩, ?_⟩
          · have := h3 j u hj
            rwa [Nat.zero_add] at this
          · have := Nat.mul_le_mul_right 16 (show ps.length ≤ elems.length + rest.length by omega)
            omega
      obtain ⟨l, A, cA, css, rfl, hlA, hLA, hTA, hcA, hfA, hkA⟩ := hS
      obtain ⟨ps, B, cB, rfl, hlB, hLB, hkB⟩ := hP
      refine ⟨.mk k a s.data.toList m ps l, ?_, ?_⟩
      · unfold TIc
        exact ⟨A, cA, B, cB, rfl, hlA, hlB, hLB, css, hLA, hTA, fun _ => hcA⟩
      · unfold fz; exact ⟨hkB, hkA, hfA⟩
set_option maxRecDepth 100000 in
/-- A node that came in by value, within reach. -/
theorem node_fits {r : Reach} {b0 : Nat} {v : Value} {d : DataW H} {p : List MemPlace} (hv : Value.okWide Tryz.prog w r b0 26 v) (h : DataW.Trod enc Tryz.prog w base spare held 26 v d p) (hs : (d.weights Tryz.prog 26).all (· ≤ reachBytes) = true) :
    ∃ z cs, v = .agg cs.toArray ∧ TIc True w z cs ∧ fz z := by
  obtain ⟨cs, rfl, _⟩ := okWide_struct Tryz.underlying26 hv
  obtain ⟨fuel, hf⟩ := h
  obtain ⟨z, h1, h2⟩ := node_fit fuel _ _ hf hs
  exact ⟨z, _, by simp [Value.cells], h1, h2⟩
end
end Go.Proofs.YtokfmclbninkmaaGreatDoor.Sw
