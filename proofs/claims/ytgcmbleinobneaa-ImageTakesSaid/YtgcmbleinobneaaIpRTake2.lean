/- DERIVED. The contract of the reference's Take. By an AI agent (written by gen-rtake.py). -/
import Derived.Test.YtgcmbleinobneaaIpRTake
import Derived.Test.YtgcmbleinobneaaIpAny
import Derived.Deep.DeepCutAuto
import Derived.Deep.CutBlock
namespace Go.Proofs.Ytgcmbleinobneaa.Ip
open Go.ChangeShapes Go.WideShapes Go.ChangeAt Go.RowKit Args ImRef
set_option linter.unusedVariables false
set_option maxRecDepth 100000 in
set_option maxHeartbeats 16000000 in
theorem rtake (A : Option Addr) (c : Nat) (bs : List Int) (w : World) (hp : Pb w.heap.size w A c bs) :
    Calls Try.prog 17 #[.slice A bs.length c] w (TakeR bs w) := by
  obtain ⟨i0, hi, hi0, hi1, hi2⟩ := info_parts infoH
  have HI := Lib.hid hi; have HI0 := Lib.hid hi0; have HI1 := Lib.hid hi1; have HI2 := Lib.hid hi2
  have hz := Blk.new w 25 zeroV
  have hb1 : Below w.heap.size w (w.alloc (.cells zeroV 25)) := (Below.refl _ _).alloc (Nat.le_refl _) _
  obtain ⟨W1, hW1⟩ : ∃ W1, W1 = w.alloc (.cells zeroV 25) := ⟨_, rfl⟩
  rw [← hW1] at hz hb1
  have hs1 : W1.heap.size = w.heap.size + 1 := by rw [hW1]; simp
  have hp1 := hp.upd (Upd.of_below hb1 (fun _ => False)) (fun _ h => h.elim)
  have hreach := hp.reach
  have HP := Lib.hid hp1; have HZ := Lib.hid hz; have HB1 := Lib.hid hb1; have HW1 := Lib.hid hW1
  clear hi hi0 hi1 hi2 hz hb1 hW1 hp hp1
  go_enter Try.func17, Try.ntmps17
  go_wp2_with fail
  have HW1' := HW1.out
  unfold zeroV at HW1'
  rw [← HW1']
  clear HW1'
  go_loopw [5] (fun vi wr => ∃ i : Nat, i ≤ 4 ∧ i ≤ bs.length ∧ vi = .int .i64 i ∧ Hid (bs.take i = msk1.take i ∧ Upd (fun _ => False) W1 wr)) (fun vi _ => 4 - (intOf vi).toNat)
  case atStart => exact ⟨0, by omega, by omega, rfl, Lib.hid ⟨rfl, Upd.refl _ _⟩⟩
  case round =>
    obtain ⟨i, hi4, hil, rfl, HH⟩ := hrel
    have hzr := HZ.out.upd HH.out.2 (fun h => h)
    have hbr : Below w.heap.size w wr := HB1.out.trans (HH.out.2.below HB1.out.size (fun _ h => h.elim))
    by_cases hlt : i < 4
    · by_cases hlb : i < bs.length
      · obtain ⟨x, hx⟩ : ∃ x, bs[i]? = some x := ⟨_, List.getElem?_eq_getElem hlb⟩
        obtain ⟨b, o, rfl, _, hcell⟩ := (HH.out.2.lies HP.out.lies (fun _ _ _ _ h => h.elim)).at_ (j := i) (u := .int .u8 x) (by simp [hx])
        have e1 := hcell i (.int .u8 x) (by simp [hx])
        have HX := Lib.hid hx
        clear hcell hx
        obtain ⟨y, hy⟩ : ∃ y, msk1[i]? = some y := ⟨_, List.getElem?_eq_getElem (show i < msk1.length from hlt)⟩
        have hidx : ∀ h, (((({ data := #[77, 83, 75, 49] } : ByteArray)[i]'h).toNat : Nat) : Int) = y := by
          have h4 : i = 0 ∨ i = 1 ∨ i = 2 ∨ i = 3 := by omega
          intro h
          rcases h4 with rfl | rfl | rfl | rfl <;> exact Option.some.inj hy
        have HY := Lib.hid hy
        clear hy
        by_cases hxy : x = y
        · subst hxy
          have hnf : (x != x) = false := by simp
          go_wp2_with fail
          go_quiet (fail)
          try simp only [hidx, hnf]
          go_wp2_with fail
          go_roundw
          case rel => exact ⟨i + 1, by omega, by omega, by go_num, Lib.hid ⟨take_next bs i x HH.out.1 HX.out HY.out, HH.out.2.drewN nq⟩⟩
          case measure => simp [intOf]; omega
        · have hne : (x != y) = true := bne_iff_ne.2 hxy
          have hzq := (hzr.upd ((Upd.refl (fun _ => False) wr).drewN 1) (fun h => h))
          go_wp2_with fail
          go_quiet (fail)
          try simp only [hidx, hne]
          have HUQ := Lib.hid ((Upd.refl (fun _ => False) wr).drewN nq)
          have e1' := e1
          clear e1 hzq
          generalize wr.drewN nq = wq at *
          have HZZ := Lib.hid (show Blk wq w.heap.size 25 zeroV from hzr.upd HUQ.out (fun h => h))
          have HTK := Lib.hid (show takeR bs = bad 4 from pre_bad bs i x y HX.out HY.out hxy)
          have HBW := Lib.hid (show Below w.heap.size w wq from hbr.trans (HUQ.out.below hbr.size (fun _ h => h.elim)))
          obtain ⟨⟨z0, z1, z2, z3, z4, z5, z6⟩, y0, y1, y2, y3, y4, y5, y6⟩ := zero7 HZZ.out
          go_wp2_with fail
          obtain ⟨hQ, hU⟩ := blk7p HZZ.out (Value.int .i64 0) (Value.int .i64 0) (Value.int .i64 0) (Value.int .i64 0) (Value.slice none 0 0) (Value.slice none 0 0) (Value.slice none 0 0)
          obtain ⟨WW, hWW⟩ : ∃ WW, WW = (((((((wq.setCell ⟨w.heap.size, 0, none⟩ (Value.int .i64 0)).setCell ⟨w.heap.size, 1, none⟩ (Value.int .i64 0)).setCell ⟨w.heap.size, 2, none⟩ (Value.int .i64 0)).setCell ⟨w.heap.size, 3, none⟩ (Value.int .i64 0)).setCell ⟨w.heap.size, 4, none⟩ (Value.slice none 0 0)).setCell ⟨w.heap.size, 5, none⟩ (Value.slice none 0 0)).setCell ⟨w.heap.size, 6, none⟩ (Value.slice none 0 0)) := ⟨_, rfl⟩
          rw [← hWW] at hQ hU ⊢
          clear hWW
          obtain ⟨r0, r1, r2, r3, r4, r5, r6⟩ := (zero7 hQ).1
          exact bodyPost_ret (v := .tuple #[.slice none 0 0, man man0 none none none 0 0 0, .int .i64 4]) (by simp [results, Try.results17, go_sem, r0, r1, r2, r3, r4, r5, r6, man0]) rfl ⟨.slice none 0 0, man0, none, none, none, 0, 0, 0, 4, [], rfl, HTK.out, ⟨none, 0, rfl, Nat.le_refl _, by decide, Lies.nil _ _⟩, Cs.none_ _, Cs.none_ _, Cs.none_ _, HBW.out.trans (hU.below HBW.out.size (fun g hg => by omega))⟩
      · have hil2 : bs.length = i := by omega
        have HZZ := Lib.hid (show Blk wr w.heap.size 25 zeroV from hzr)
        have HTK := Lib.hid (show takeR bs = bad 3 from pre_short bs i HH.out.1 hlt hil2)
        have HBW := Lib.hid (show Below w.heap.size w wr from hbr)
        obtain ⟨⟨z0, z1, z2, z3, z4, z5, z6⟩, y0, y1, y2, y3, y4, y5, y6⟩ := zero7 HZZ.out
        go_wp2_with fail
        obtain ⟨hQ, hU⟩ := blk7p HZZ.out (Value.int .i64 0) (Value.int .i64 0) (Value.int .i64 0) (Value.int .i64 0) (Value.slice none 0 0) (Value.slice none 0 0) (Value.slice none 0 0)
        obtain ⟨WW, hWW⟩ : ∃ WW, WW = (((((((wr.setCell ⟨w.heap.size, 0, none⟩ (Value.int .i64 0)).setCell ⟨w.heap.size, 1, none⟩ (Value.int .i64 0)).setCell ⟨w.heap.size, 2, none⟩ (Value.int .i64 0)).setCell ⟨w.heap.size, 3, none⟩ (Value.int .i64 0)).setCell ⟨w.heap.size, 4, none⟩ (Value.slice none 0 0)).setCell ⟨w.heap.size, 5, none⟩ (Value.slice none 0 0)).setCell ⟨w.heap.size, 6, none⟩ (Value.slice none 0 0)) := ⟨_, rfl⟩
        rw [← hWW] at hQ hU ⊢
        clear hWW
        obtain ⟨r0, r1, r2, r3, r4, r5, r6⟩ := (zero7 hQ).1
        exact bodyPost_ret (v := .tuple #[.slice none 0 0, man man0 none none none 0 0 0, .int .i64 3]) (by simp [results, Try.results17, go_sem, r0, r1, r2, r3, r4, r5, r6, man0]) rfl ⟨.slice none 0 0, man0, none, none, none, 0, 0, 0, 3, [], rfl, HTK.out, ⟨none, 0, rfl, Nat.le_refl _, by decide, Lies.nil _ _⟩, Cs.none_ _, Cs.none_ _, Cs.none_ _, HBW.out.trans (hU.below HBW.out.size (fun g hg => by omega))⟩
    · have hi44 : i = 4 := by omega
      subst hi44
      obtain ⟨htk, hl4⟩ := pre_all bs HH.out.1
      have hlo : w.heap.size < wr.heap.size := by have := HH.out.2.size; omega
      obtain ⟨wA, hwA⟩ : ∃ wA, wA = (wr.alloc (.cells #[.slice A bs.length c, .int .i64 4, .bool false] 67)).alloc (.cells #[] 44) := ⟨_, rfl⟩
      have huA : Upd (fun _ => False) wr wA := by rw [hwA]; exact ((Upd.refl _ wr).alloc _).alloc _
      have hpA := HP.out.upd (HH.out.2.trans huA) (fun _ h => h.elim)
      have hrbA : Blk wA wr.heap.size 67 #[.slice A bs.length c, .int .i64 4, .bool false] := by rw [hwA]; exact (Blk.new wr _ _).alloc _
      have T0 := Lib.hid (show TK w wr.heap.size A c bs wA 4 false from ⟨⟨hrbA, hpA.lies, hpA.low, hpA.byte, hpA.reach, hpA.cap, hpA.max, Nat.le_of_lt hlo, hl4⟩, hzr.upd huA (fun h => h), hbr.trans (huA.below hbr.size (fun _ h => h.elim)), hlo⟩)
      have hro : wA.ownsRow w.heap.size 44 1 (.slice (some ⟨wr.heap.size + 1, 0, none⟩) 0 0) 0 [] := by
        have := own_empty (wr.alloc (.cells #[.slice A bs.length c, .int .i64 4, .bool false] 67)) (base := w.heap.size) (by simp; omega) 44 1
        rw [World.size_alloc] at this
        rw [hwA]; exact this
      have ROW0 := Lib.hid hro
      have S0 := Lib.hid (show Stand bs (shE false) (numThen 4 (bs.drop 4) h2) from ⟨fun _ => htk.trans (head_then _), fun h => absurd rfl h⟩)
      have HWA := Lib.hid hwA
      generalize hrr : wr.heap.size = r at *
      clear huA hpA hrbA hro htk hzr hbr hwA HH hil hl4 hlt hi4 HP HZ HB1
      go_wp2_with fail
      rw [← HWA.out]
      refine (rnum_any w.heap.size r A c bs _ _ 4 4 rfl (by decide) _ T0.out.rr).mono ?_
      rintro en w1 ⟨x1, a1, s1, rfl, h1, hu, hx1, hy1, hn⟩
      have hy1 : x1 < 4294967296 := hy1
      have T1 := Lib.hid (T0.out.num h1 hu)
      have S1 := Lib.hid (stand_num hn S0.out)
      have ROW1 := Lib.hid (T0.out.row hu ROW0.out)
      clear h1 hu hn
      have huA := (Upd.refl (fun _ => False) w1).alloc (.cells (manV ⟨x1, 0, 0, 0, [], [], []⟩ none none none 0 0 0) 25)
      have TA1 := Lib.hid (T1.out.upd huA (fun _ h => h.elim))
      have ROA1 := Lib.hid (World.ownsRow.alloc ROW1.out (.cells (manV ⟨x1, 0, 0, 0, [], [], []⟩ none none none 0 0 0) 25))
      have M1 := Lib.hid (Blk.new w1 25 (manV ⟨x1, 0, 0, 0, [], [], []⟩ none none none 0 0 0))
      have hm1 := T1.out.rr.lt
      have hm0 : w.heap.size < w1.heap.size := by omega
      have HWM := Lib.hid (rfl : w1.alloc (.cells (manV ⟨x1, 0, 0, 0, [], [], []⟩ none none none 0 0 0) 25) = w1.alloc (.cells (manV ⟨x1, 0, 0, 0, [], [], []⟩ none none none 0 0 0) 25))
      clear huA T0 ROW0 S0 HWA hrr
      generalize hmm : w1.heap.size = mB at *
      go_wp2_with fail
      refine (rnum_any w.heap.size r A c bs _ _ 4 4 rfl (by decide) _ TA1.out.rr).mono ?_
      rintro en w2 ⟨x2, a2, s2, rfl, h1, hu, hx2, hy2, hn⟩
      have hy2 : x2 < 4294967296 := hy2
      have T2 := Lib.hid (TA1.out.num h1 hu)
      have S2 := Lib.hid (stand_num hn S1.out)
      have ROW2 := Lib.hid (TA1.out.row hu ROA1.out)
      have M2' := M1.out.upd hu (by omega)
      have f2 : w2.cell? ⟨mB, 1, none⟩ = some (.int .i64 0) := M2'.cell 1
      have g2 := M2'.frozen 1
      have hus : Upd (· = mB) w2 (w2.setCell ⟨mB, 1, none⟩ (.int .i64 x2)) := (Upd.refl (· = mB) _).setCell (p := ⟨mB, 1, none⟩) (fun _ => rfl) _
      have TA2 := Lib.hid (T2.out.upd hus (fun g hg => by omega))
      have ROA2 := Lib.hid (row_man M2' hus ROW2.out)
      have M2 := Lib.hid (show Blk (w2.setCell ⟨mB, 1, none⟩ (.int .i64 x2)) mB 25 (manV ⟨x1, x2, 0, 0, [], [], []⟩ none none none 0 0 0) from M2'.set 1 _)
      clear h1 hu hn hus M2' T1 TA1 ROW1 ROA1 M1
      go_wp2_with fail
      refine (rnum_any w.heap.size r A c bs _ _ 4 4 rfl (by decide) _ TA2.out.rr).mono ?_
      rintro en w3 ⟨x3, a3, s3, rfl, h1, hu, hx3, hy3, hn⟩
      have hy3 : x3 < 4294967296 := hy3
      have T3 := Lib.hid (TA2.out.num h1 hu)
      have S3 := Lib.hid (stand_num hn S2.out)
      have ROW3 := Lib.hid (TA2.out.row hu ROA2.out)
      have M3' := M2.out.upd hu (by omega)
      have f3 : w3.cell? ⟨mB, 2, none⟩ = some (.int .i64 0) := M3'.cell 2
      have g3 := M3'.frozen 2
      have hus : Upd (· = mB) w3 (w3.setCell ⟨mB, 2, none⟩ (.int .i64 x3)) := (Upd.refl (· = mB) _).setCell (p := ⟨mB, 2, none⟩) (fun _ => rfl) _
      have TA3 := Lib.hid (T3.out.upd hus (fun g hg => by omega))
      have ROA3 := Lib.hid (row_man M3' hus ROW3.out)
      have M3 := Lib.hid (show Blk (w3.setCell ⟨mB, 2, none⟩ (.int .i64 x3)) mB 25 (manV ⟨x1, x2, x3, 0, [], [], []⟩ none none none 0 0 0) from M3'.set 2 _)
      clear h1 hu hn hus M3' T2 TA2 ROW2 ROA2 M2
      go_wp2_with fail
      refine (rnum_any w.heap.size r A c bs _ _ 4 4 rfl (by decide) _ TA3.out.rr).mono ?_
      rintro en w4 ⟨x4, a4, s4, rfl, h1, hu, hx4, hy4, hn⟩
      have hy4 : x4 < 4294967296 := hy4
      have T4 := Lib.hid (TA3.out.num h1 hu)
      have S4 := Lib.hid (stand_num hn S3.out)
      have ROW4 := Lib.hid (TA3.out.row hu ROA3.out)
      have M4' := M3.out.upd hu (by omega)
      have f4 : w4.cell? ⟨mB, 3, none⟩ = some (.int .i64 0) := M4'.cell 3
      have g4 := M4'.frozen 3
      have hus : Upd (· = mB) w4 (w4.setCell ⟨mB, 3, none⟩ (.int .i64 x4)) := (Upd.refl (· = mB) _).setCell (p := ⟨mB, 3, none⟩) (fun _ => rfl) _
      have TA4 := Lib.hid (T4.out.upd hus (fun g hg => by omega))
      have ROA4 := Lib.hid (row_man M4' hus ROW4.out)
      have M4 := Lib.hid (show Blk (w4.setCell ⟨mB, 3, none⟩ (.int .i64 x4)) mB 25 (manV ⟨x1, x2, x3, x4, [], [], []⟩ none none none 0 0 0) from M4'.set 3 _)
      clear h1 hu hn hus M4' T3 TA3 ROW3 ROA3 M3
      go_wp2_with fail
      refine (rnum_any w.heap.size r A c bs _ _ 4 4 rfl (by decide) _ TA4.out.rr).mono ?_
      rintro en w5 ⟨x5, a5, s5, rfl, h1, hu, hx5, hy5, hn⟩
      have hy5 : x5 < 4294967296 := hy5
      have T5 := Lib.hid (TA4.out.num h1 hu)
      have S5 := Lib.hid (stand_num hn S4.out)
      have ROW5 := Lib.hid (TA4.out.row hu ROA4.out)
      have M5 := Lib.hid (M4.out.upd hu (by omega))
      have HN5 := Lib.hid hn
      clear h1 hu hn T4 TA4 ROW4 ROA4 M4 f2 g2 f3 g3 f4 g4
      have S5 := Lib.hid (show Stand bs (shE s5) (codeR x1 x2 x3 x4 x5 (bs.drop a5)) from S5.out)
      by_cases hlong : 60000 < x5
      · have hs5 : s5 = false := by
          rcases HN5.out with ⟨_, h, _⟩ | ⟨_, h, _⟩
          · exact h
          · omega
        have hbad : takeR bs = bad 2 := by
          have h := S5.out.1 (by rw [hs5]; rfl)
          unfold codeR at h
          rw [if_pos hlong] at h
          exact h
        have HZZ := Lib.hid (show Blk w5 w.heap.size 25 zeroV from T5.out.zero)
        have HTK := Lib.hid (show takeR bs = bad 2 from hbad)
        have HBW := Lib.hid (show Below w.heap.size w w5 from T5.out.below)
        obtain ⟨⟨z0, z1, z2, z3, z4, z5, z6⟩, y0, y1, y2, y3, y4, y5, y6⟩ := zero7 HZZ.out
        go_wp2_with fail
        obtain ⟨hQ, hU⟩ := blk7p HZZ.out (Value.int .i64 0) (Value.int .i64 0) (Value.int .i64 0) (Value.int .i64 0) (Value.slice none 0 0) (Value.slice none 0 0) (Value.slice none 0 0)
        obtain ⟨WW, hWW⟩ : ∃ WW, WW = (((((((w5.setCell ⟨w.heap.size, 0, none⟩ (Value.int .i64 0)).setCell ⟨w.heap.size, 1, none⟩ (Value.int .i64 0)).setCell ⟨w.heap.size, 2, none⟩ (Value.int .i64 0)).setCell ⟨w.heap.size, 3, none⟩ (Value.int .i64 0)).setCell ⟨w.heap.size, 4, none⟩ (Value.slice none 0 0)).setCell ⟨w.heap.size, 5, none⟩ (Value.slice none 0 0)).setCell ⟨w.heap.size, 6, none⟩ (Value.slice none 0 0)) := ⟨_, rfl⟩
        rw [← hWW] at hQ hU ⊢
        clear hWW
        obtain ⟨r0, r1, r2, r3, r4, r5, r6⟩ := (zero7 hQ).1
        exact bodyPost_ret (v := .tuple #[.slice none 0 0, man man0 none none none 0 0 0, .int .i64 2]) (by simp [results, Try.results17, go_sem, r0, r1, r2, r3, r4, r5, r6, man0]) rfl ⟨.slice none 0 0, man0, none, none, none, 0, 0, 0, 2, [], rfl, HTK.out, ⟨none, 0, rfl, Nat.le_refl _, by decide, Lies.nil _ _⟩, Cs.none_ _, Cs.none_ _, Cs.none_ _, HBW.out.trans (hU.below HBW.out.size (fun g hg => by omega))⟩
      · obtain ⟨N, rfl⟩ : ∃ N : Nat, x5 = N := ⟨x5.toNat, by omega⟩
        have hN6 : N ≤ 60000 := by omega
        have hdl : decide (60000 < (N : Int)) = false := decide_eq_false hlong
        clear hlong hy5 hx5
        go_upto_block 2 with fail
        go_cut [7] (fun v wx => ∃ (A' : Option Addr) (c' : Nat) (zs : List Int) (at' : Nat) (sh : Bool), v = .slice A' zs.length c' ∧ zs.length ≤ 60000 ∧ Hid (TK w r A c bs wx at' sh ∧ Lies wx A' (zs.map (.int .u16)) ∧ zs.length ≤ c' ∧ c' ≤ maxLen ∧ Blk wx mB 25 (manV ⟨x1, x2, x3, x4, [], [], []⟩ none none none 0 0 0) ∧ Stand bs (shE sh) (listsR x1 x2 x3 x4 zs (bs.drop at'))))
        case first =>
          go_wp2_with fail
          go_loopw [7, 10] (fun vu vk wl => ∃ (k : Nat) (A' : Option Addr) (c' : Nat) (zs : List Int) (at' : Nat) (sh : Bool), k ≤ N ∧ vk = .int .i64 k ∧ vu = .slice A' zs.length c' ∧ Hid (zs.length = k) ∧ Hid (TK w r A c bs wl at' sh ∧ wl.ownsRow w.heap.size 44 1 (.slice A' zs.length c') zs.length (zs.map (.int .u16)) ∧ Blk wl mB 25 (manV ⟨x1, x2, x3, x4, [], [], []⟩ none none none 0 0 0) ∧ (s5 = true → sh = true) ∧ (s5 = false → HalvesC N (bs.drop a5) k zs (bs.drop at') sh))) (fun _ vk _ => N - (intOf vk).toNat)
          case atStart => exact ⟨0, some ⟨r + 1, 0, none⟩, 0, [], a5, s5, by omega, rfl, rfl, Lib.hid rfl, Lib.hid ⟨T5.out, ROW5.out, M5.out, id, fun h => .inl ⟨h, by omega, rfl, rfl⟩⟩⟩
          case round =>
            rename World => wl
            obtain ⟨k, A', c', zs, at', sh, hk, rfl, rfl, HLK, HH⟩ := hrel
            have hzl : zs.length ≤ 60000 := by have := HLK.out; omega
            have b2 : wl.cell? ⟨r, 2, none⟩ = some (.bool sh) := HH.out.1.rr.blk.cell 2
            by_cases hlt : k < N
            · cases sh with
              | true =>
                have G := Lib.hid (show TK w r A c bs wl at' true ∧ Lies wl A' (zs.map (.int .u16)) ∧ zs.length ≤ c' ∧ c' ≤ maxLen ∧ Blk wl mB 25 (manV ⟨x1, x2, x3, x4, [], [], []⟩ none none none 0 0 0) ∧ Stand bs (shE true) (listsR x1 x2 x3 x4 zs (bs.drop at')) from by
                  obtain ⟨q1, q2, q3, q4, q5⟩ := HH.out
                  obtain ⟨_, _, ee, p1, p2, _⟩ := sl_own q2
                  injection ee with _ _ ee
                  subst ee
                  refine ⟨q1, lies_own q2, p1, p2, q3, HalvesC.stand (N := N) (by omega) (by omega) S5.out q4 fun h => ?_⟩
                  exact .inr ⟨rfl, ((q5 h).resolve_left fun h => absurd h.1 (by decide)).2⟩)
                clear HH
                go_wp2_with fail
                go_meet
                exact ⟨A', c', zs, at', true, rfl, by omega, G⟩
              | false =>
                go_wp2_with fail
                refine (rnum_any w.heap.size r A c bs at' false 2 2 rfl (by decide) wl HH.out.1.rr).mono ?_
                rintro en w6 ⟨x6, a6, s6, rfl, h1, hu, hx6, hy6, hn⟩
                have hy6 : x6 < 65536 := hy6
                have hwr : IntKind.u16.wrap x6 = x6 := by rw [IntKind.wrap_u16]; omega
                obtain ⟨q1, q2, q3, q4, q5⟩ := HH.out
                have t6 := q1.num h1 hu
                have ro6 := q1.row hu q2
                have m6 := q3.upd hu (by omega)
                have T6 := Lib.hid t6; have RO6 := Lib.hid ro6; have M6 := Lib.hid m6
                have Q5 := Lib.hid (fun h : s5 = false => (q5 h).next hlt hn)
                have Q4 := Lib.hid (fun h : s5 = true => (absurd (q4 h) (by decide) : s6 = true))
                have HO := Lib.hid (World.ownsRow.alloc ro6 (.cells #[.int .u16 x6] 44))
                have HLI := Lib.hid (show Lies (w6.alloc (.cells #[.int .u16 x6] 44)) (some ⟨w6.heap.size, 0, none⟩) [.int .u16 x6] from fun j u hj => ⟨_, rfl, by
                  rw [Args.add_plain, Nat.zero_add, World.cell?_alloc_at _ _ _ _ rfl]
                  simpa using hj⟩)
                have hbs6 : w.heap.size ≤ (w6.alloc (.cells #[.int .u16 x6] 44)).heap.size := by have := t6.below.size; simp; omega
                have HBS := Lib.hid hbs6
                clear h1 hu hn q1 q2 q3 q4 q5 t6 ro6 m6 hbs6
                clear hy6
                go_wp2_with (at_builtin; go_loud (refine wpList_fresh rfl _ _ 22 rfl w.heap.size 44 i0 (.int .u16 0) 1 2 Try.underlying22 HI.out HI0.out HI1.out HI2.out rfl (by decide) _ zs.length _ rfl HO.out (some ⟨w6.heap.size, 0, none⟩) 1 1 [.int .u16 x6] rfl rfl HLI.out (by simp [Value.oneCell']) (by unfold maxLen; omega) (by omega) HBS.out ?_; intro A8 c8 w8 h2 h3 h4 h5; have H4 := Lib.hid h4; have H5 := Lib.hid h5; clear h2 h3 h4 h5))
                go_roundw
                case rel =>
                  have ha := (((Upd.refl (fun g => (Value.slice A' zs.length c').ownBlock = some g) w6).alloc (.cells #[.int .u16 x6] 44)).grown H5.out fun g hg _ => hg)
                  refine ⟨k + 1, A8, c8, zs ++ [x6], a6, s6, by omega, by go_num, ?_, Lib.hid (by simp [HLK.out]), Lib.hid ⟨T6.out.upd ha (fun g hg => ?_), ?_, M6.out.upd ha (own_not RO6.out M6.out (by decide)), Q4.out, Q5.out⟩⟩
                  · rw [List.length_append]; rfl
                  · refine ⟨?_, fun e => own_not RO6.out T6.out.rr.blk (by decide) (e ▸ hg)⟩
                    have h1 := (World.ownsRow.lt RO6.out g hg).1
                    have h2 : g ≠ w.heap.size := fun e => own_not RO6.out T6.out.zero (by decide) (e ▸ hg)
                    omega
                  · rw [List.length_append, List.map_append]
                    exact H4.out
                case measure => simp [intOf]; omega
            · have hkN : k = N := by omega
              have G := Lib.hid (show TK w r A c bs wl at' sh ∧ Lies wl A' (zs.map (.int .u16)) ∧ zs.length ≤ c' ∧ c' ≤ maxLen ∧ Blk wl mB 25 (manV ⟨x1, x2, x3, x4, [], [], []⟩ none none none 0 0 0) ∧ Stand bs (shE sh) (listsR x1 x2 x3 x4 zs (bs.drop at')) from by
                obtain ⟨q1, q2, q3, q4, q5⟩ := HH.out
                obtain ⟨_, _, ee, p1, p2, _⟩ := sl_own q2
                injection ee with _ _ ee
                subst ee
                refine ⟨q1, lies_own q2, p1, p2, q3, HalvesC.stand (N := N) (by omega) (by omega) S5.out q4 fun h => ?_⟩
                exact hkN ▸ q5 h)
              clear HH
              go_wp2_with fail
              go_meet
              exact ⟨A', c', zs, at', sh, rfl, by omega, G⟩
        case rest =>
          rename World => wx
          obtain ⟨A7, c7, zs, a7, s7, rfl, hzl, HH⟩ := hcut
          have hrm := hm1
          have L0 := Lib.hid (show TL w r mB A c bs zs A7 wx 0 ⟨x1, x2, x3, x4, [], [], []⟩ none none none 0 0 0 a7 s7 from ⟨HH.out.1, HH.out.2.1, HH.out.2.2.2.2.1, Ls.nil_ _ _ _, Ls.nil_ _ _ _, Ls.nil_ _ _ _, HH.out.2.2.2.2.2⟩)
          have hzc : zs.length ≤ c7 := HH.out.2.2.1
          have hzm : c7 ≤ maxLen := HH.out.2.2.2.1
          clear HH S5 M5 ROW5 T5 HN5 S4 S3 S2 S1
          have f0 := fun (W : World) (hu : Upd (· = r) wx W) => (L0.out.man.upd hu (by omega)).cell (4 + 0)
          have g0 := fun (W : World) (hu : Upd (· = r) wx W) => (L0.out.man.upd hu (by omega)).frozen (4 + 0)
          have F0 := Lib.hid f0; have G0 := Lib.hid g0
          clear f0 g0
          go_wp2_with fail
          refine (rlist_any w.heap.size r A c bs _ _ _ L0.out.tk.rr).mono ?_
          rintro en v0 ⟨B4, d4, L4, b0, t0, rfl, ho, hll, hls, h1, hu, hc0, hc1⟩
          have L1 := Lib.hid (L0.out.next (by decide) hrm ho hll hls h1 hu hc0 hc1 (B4' := B4) (B5' := none) (B6' := none) (c4' := d4) (c5' := 0) (c6' := 0) rfl (fun _ _ h => h) (fun _ h _ => h) (fun _ h _ => h))
          have f0 : v0.cell? ⟨mB, 4, none⟩ = some (.slice none 0 0) := F0.out _ hu
          have g0 : v0.frozen? ⟨mB, 4, none⟩ = false := G0.out _ hu
          clear ho hll hls h1 hu hc0 hc1 F0 G0
          have f1 := fun (W : World) (hu : Upd (· = r) (v0.setCell ⟨mB, 4, none⟩ (.slice B4 L4.length d4)) W) => (L1.out.man.upd hu (by omega)).cell (4 + 1)
          have g1 := fun (W : World) (hu : Upd (· = r) (v0.setCell ⟨mB, 4, none⟩ (.slice B4 L4.length d4)) W) => (L1.out.man.upd hu (by omega)).frozen (4 + 1)
          have F1 := Lib.hid f1; have G1 := Lib.hid g1
          clear f1 g1
          go_wp2_with fail
          refine (rlist_any w.heap.size r A c bs _ _ _ L1.out.tk.rr).mono ?_
          rintro en v1 ⟨B5, d5, L5, b1, t1, rfl, ho, hll, hls, h1, hu, hc0, hc1⟩
          have L2 := Lib.hid (L1.out.next (by decide) hrm ho hll hls h1 hu hc0 hc1 (B4' := B4) (B5' := B5) (B6' := none) (c4' := d4) (c5' := d5) (c6' := 0) rfl (fun _ h _ => h) (fun _ _ h => h) (fun _ h _ => h))
          have f1 : v1.cell? ⟨mB, 5, none⟩ = some (.slice none 0 0) := F1.out _ hu
          have g1 : v1.frozen? ⟨mB, 5, none⟩ = false := G1.out _ hu
          clear ho hll hls h1 hu hc0 hc1 F1 G1
          have f2 := fun (W : World) (hu : Upd (· = r) (v1.setCell ⟨mB, 5, none⟩ (.slice B5 L5.length d5)) W) => (L2.out.man.upd hu (by omega)).cell (4 + 2)
          have g2 := fun (W : World) (hu : Upd (· = r) (v1.setCell ⟨mB, 5, none⟩ (.slice B5 L5.length d5)) W) => (L2.out.man.upd hu (by omega)).frozen (4 + 2)
          have F2 := Lib.hid f2; have G2 := Lib.hid g2
          clear f2 g2
          go_wp2_with fail
          refine (rlist_any w.heap.size r A c bs _ _ _ L2.out.tk.rr).mono ?_
          rintro en v2 ⟨B6, d6, L6, b2, t2, rfl, ho, hll, hls, h1, hu, hc0, hc1⟩
          have L3 := Lib.hid (L2.out.next (by decide) hrm ho hll hls h1 hu hc0 hc1 (B4' := B4) (B5' := B5) (B6' := B6) (c4' := d4) (c5' := d5) (c6' := d6) rfl (fun _ h _ => h) (fun _ h _ => h) (fun _ _ h => h))
          have f2 : v2.cell? ⟨mB, 6, none⟩ = some (.slice none 0 0) := F2.out _ hu
          have g2 : v2.frozen? ⟨mB, 6, none⟩ = false := G2.out _ hu
          clear ho hll hls h1 hu hc0 hc1 F2 G2
          go_upto_region 24 with fail
          generalize hWZ : v2.setCell ⟨mB, 6, none⟩ (.slice B6 L6.length d6) = wz at *
          have L3 : Hid (TL w r mB A c bs zs A7 wz 3 ⟨x1, x2, x3, x4, L4, L5, L6⟩ B4 B5 B6 d4 d5 d6 b2 t2) := L3
          have q0 : wz.cell? ⟨r, 0, none⟩ = some (.slice A bs.length c) := L3.out.tk.rr.blk.cell 0
          have q1 : wz.cell? ⟨r, 1, none⟩ = some (.int .i64 b2) := L3.out.tk.rr.blk.cell 1
          have q2 : wz.cell? ⟨r, 2, none⟩ = some (.bool t2) := L3.out.tk.rr.blk.cell 2
          clear hWZ L0 L1 L2 f0 g0 f1 g1 f2 g2
          cases t2 with
          | true =>
            have HZZ := Lib.hid (show Blk wz w.heap.size 25 zeroV from L3.out.tk.zero)
            have HTK := Lib.hid (show takeR bs = bad 3 from L3.out.st.2 (by decide))
            have HBW := Lib.hid (show Below w.heap.size w wz from L3.out.tk.below)
            obtain ⟨⟨z0, z1, z2, z3, z4, z5, z6⟩, y0, y1, y2, y3, y4, y5, y6⟩ := zero7 HZZ.out
            go_wp2_with fail
            obtain ⟨hQ, hU⟩ := blk7p HZZ.out (Value.int .i64 0) (Value.int .i64 0) (Value.int .i64 0) (Value.int .i64 0) (Value.slice none 0 0) (Value.slice none 0 0) (Value.slice none 0 0)
            obtain ⟨WW, hWW⟩ : ∃ WW, WW = (((((((wz.setCell ⟨w.heap.size, 0, none⟩ (Value.int .i64 0)).setCell ⟨w.heap.size, 1, none⟩ (Value.int .i64 0)).setCell ⟨w.heap.size, 2, none⟩ (Value.int .i64 0)).setCell ⟨w.heap.size, 3, none⟩ (Value.int .i64 0)).setCell ⟨w.heap.size, 4, none⟩ (Value.slice none 0 0)).setCell ⟨w.heap.size, 5, none⟩ (Value.slice none 0 0)).setCell ⟨w.heap.size, 6, none⟩ (Value.slice none 0 0)) := ⟨_, rfl⟩
            rw [← hWW] at hQ hU ⊢
            clear hWW
            obtain ⟨r0, r1, r2, r3, r4, r5, r6⟩ := (zero7 hQ).1
            exact bodyPost_ret (v := .tuple #[.slice none 0 0, man man0 none none none 0 0 0, .int .i64 3]) (by simp [results, Try.results17, go_sem, r0, r1, r2, r3, r4, r5, r6, man0]) rfl ⟨.slice none 0 0, man0, none, none, none, 0, 0, 0, 3, [], rfl, HTK.out, ⟨none, 0, rfl, Nat.le_refl _, by decide, Lies.nil _ _⟩, Cs.none_ _, Cs.none_ _, Cs.none_ _, HBW.out.trans (hU.below HBW.out.size (fun g hg => by omega))⟩
          | false =>
            have hst : takeR bs = endR zs ⟨x1, x2, x3, x4, L4, L5, L6⟩ (bs.drop b2) := L3.out.st.1 rfl
            by_cases hlen : b2 < bs.length
            · have hbad : takeR bs = bad 4 := by
                rw [hst]; unfold endR
                rw [if_pos (.inl fun h => by have := congrArg List.length h; rw [List.length_drop] at this; simp at this; omega)]
              clear hst
              have HZZ := Lib.hid (show Blk wz w.heap.size 25 zeroV from L3.out.tk.zero)
              have HTK := Lib.hid (show takeR bs = bad 4 from hbad)
              have HBW := Lib.hid (show Below w.heap.size w wz from L3.out.tk.below)
              obtain ⟨⟨z0, z1, z2, z3, z4, z5, z6⟩, y0, y1, y2, y3, y4, y5, y6⟩ := zero7 HZZ.out
              go_wp2_with fail
              obtain ⟨hQ, hU⟩ := blk7p HZZ.out (Value.int .i64 0) (Value.int .i64 0) (Value.int .i64 0) (Value.int .i64 0) (Value.slice none 0 0) (Value.slice none 0 0) (Value.slice none 0 0)
              obtain ⟨WW, hWW⟩ : ∃ WW, WW = (((((((wz.setCell ⟨w.heap.size, 0, none⟩ (Value.int .i64 0)).setCell ⟨w.heap.size, 1, none⟩ (Value.int .i64 0)).setCell ⟨w.heap.size, 2, none⟩ (Value.int .i64 0)).setCell ⟨w.heap.size, 3, none⟩ (Value.int .i64 0)).setCell ⟨w.heap.size, 4, none⟩ (Value.slice none 0 0)).setCell ⟨w.heap.size, 5, none⟩ (Value.slice none 0 0)).setCell ⟨w.heap.size, 6, none⟩ (Value.slice none 0 0)) := ⟨_, rfl⟩
              rw [← hWW] at hQ hU ⊢
              clear hWW
              obtain ⟨r0, r1, r2, r3, r4, r5, r6⟩ := (zero7 hQ).1
              exact bodyPost_ret (v := .tuple #[.slice none 0 0, man man0 none none none 0 0 0, .int .i64 4]) (by simp [results, Try.results17, go_sem, r0, r1, r2, r3, r4, r5, r6, man0]) rfl ⟨.slice none 0 0, man0, none, none, none, 0, 0, 0, 4, [], rfl, HTK.out, ⟨none, 0, rfl, Nat.le_refl _, by decide, Lies.nil _ _⟩, Cs.none_ _, Cs.none_ _, Cs.none_ _, HBW.out.trans (hU.below HBW.out.size (fun g hg => by omega))⟩
            · have hdr : bs.drop b2 = [] := List.drop_eq_nil_of_le (by omega)
              rw [hdr] at hst
              have HST := Lib.hid hst
              have HCAN := Lib.hid (ImRef.can ⟨x1, x2, x3, x4, L4, L5, L6⟩ B4 B5 B6 d4 d5 d6 wz L3.out.l4.1 L3.out.l5.1 L3.out.l6.1)
              obtain ⟨m0, m1, m2, m3, m4, m5, m6⟩ := box7 L3.out.man
              clear hst hdr
              go_wp2_with fail
              refine HCAN.out.mono ?_
              rintro en wy ⟨rfl, hby⟩
              have HBY := Lib.hid hby
              clear hby HCAN m0 m1 m2 m3 m4 m5 m6 q0 q1 q2
              have hzy := L3.out.tk.zero.below HBY.out L3.out.tk.zero.lt
              have hmy := L3.out.man.below HBY.out L3.out.man.lt
              have hbw := L3.out.tk.below.trans (HBY.out.mono L3.out.tk.below.size)
              have HST' : Hid (takeR bs = if canM ⟨x1, x2, x3, x4, L4, L5, L6⟩ = false then bad 4 else (0, zs, ⟨x1, x2, x3, x4, L4, L5, L6⟩)) := Lib.hid (by rw [HST.out]; unfold endR; simp)
              cases hcm : canM ⟨x1, x2, x3, x4, L4, L5, L6⟩ with
              | false =>
                have hbad : takeR bs = bad 4 := by rw [HST'.out, if_pos hcm]
                have HHZ := Lib.hid hzy; have HHB := Lib.hid hbw
                clear hzy hmy hbw
                have HZZ := Lib.hid (show Blk wy w.heap.size 25 zeroV from HHZ.out)
                have HTK := Lib.hid (show takeR bs = bad 4 from hbad)
                have HBW := Lib.hid (show Below w.heap.size w wy from HHB.out)
                obtain ⟨⟨z0, z1, z2, z3, z4, z5, z6⟩, y0, y1, y2, y3, y4, y5, y6⟩ := zero7 HZZ.out
                go_wp2_with fail
                obtain ⟨hQ, hU⟩ := blk7p HZZ.out (Value.int .i64 0) (Value.int .i64 0) (Value.int .i64 0) (Value.int .i64 0) (Value.slice none 0 0) (Value.slice none 0 0) (Value.slice none 0 0)
                obtain ⟨WW, hWW⟩ : ∃ WW, WW = (((((((wy.setCell ⟨w.heap.size, 0, none⟩ (Value.int .i64 0)).setCell ⟨w.heap.size, 1, none⟩ (Value.int .i64 0)).setCell ⟨w.heap.size, 2, none⟩ (Value.int .i64 0)).setCell ⟨w.heap.size, 3, none⟩ (Value.int .i64 0)).setCell ⟨w.heap.size, 4, none⟩ (Value.slice none 0 0)).setCell ⟨w.heap.size, 5, none⟩ (Value.slice none 0 0)).setCell ⟨w.heap.size, 6, none⟩ (Value.slice none 0 0)) := ⟨_, rfl⟩
                rw [← hWW] at hQ hU ⊢
                clear hWW
                obtain ⟨r0, r1, r2, r3, r4, r5, r6⟩ := (zero7 hQ).1
                exact bodyPost_ret (v := .tuple #[.slice none 0 0, man man0 none none none 0 0 0, .int .i64 4]) (by simp [results, Try.results17, go_sem, r0, r1, r2, r3, r4, r5, r6, man0]) rfl ⟨.slice none 0 0, man0, none, none, none, 0, 0, 0, 4, [], rfl, HTK.out, ⟨none, 0, rfl, Nat.le_refl _, by decide, Lies.nil _ _⟩, Cs.none_ _, Cs.none_ _, Cs.none_ _, HBW.out.trans (hU.below HBW.out.size (fun g hg => by omega))⟩
              | true =>
                have hok : takeR bs = (0, zs, ⟨x1, x2, x3, x4, L4, L5, L6⟩) := by rw [HST'.out, if_neg (by rw [hcm]; decide)]
                have HOK := Lib.hid hok; have HHZ := Lib.hid hzy; have HHB := Lib.hid hbw; have HHM := Lib.hid hmy
                clear hok hzy hmy hbw hcm
                obtain ⟨m0, m1, m2, m3, m4, m5, m6⟩ := box7 HHM.out
                obtain ⟨⟨z0, z1, z2, z3, z4, z5, z6⟩, y0, y1, y2, y3, y4, y5, y6⟩ := zero7 HHZ.out
                go_wp2_with fail
                go_region
                obtain ⟨hQ, hU⟩ := blk7 HHZ.out (Value.int .i64 x1) (Value.int .i64 x2) (Value.int .i64 x3) (Value.int .i64 x4) (Value.slice B4 L4.length d4) (Value.slice B5 L5.length d5) (Value.slice B6 L6.length d6)
                obtain ⟨WW, hWW⟩ : ∃ WW, WW = (((((((wy.setCell ⟨w.heap.size, 0, none⟩ (Value.int .i64 x1)).setCell ⟨w.heap.size, 1, none⟩ (Value.int .i64 x2)).setCell ⟨w.heap.size, 2, none⟩ (Value.int .i64 x3)).setCell ⟨w.heap.size, 3, none⟩ (Value.int .i64 x4)).setCell ⟨w.heap.size, 4, none⟩ (Value.slice B4 L4.length d4)).setCell ⟨w.heap.size, 5, none⟩ (Value.slice B5 L5.length d5)).setCell ⟨w.heap.size, 6, none⟩ (Value.slice B6 L6.length d6)).drew := ⟨_, rfl⟩
                rw [← hWW] at hQ hU ⊢
                clear hWW
                have r0 : WW.cell? ⟨w.heap.size, 0, none⟩ = some (Value.int .i64 x1) := hQ.cell 0
                have r1 : WW.cell? ⟨w.heap.size, 1, none⟩ = some (Value.int .i64 x2) := hQ.cell 1
                have r2 : WW.cell? ⟨w.heap.size, 2, none⟩ = some (Value.int .i64 x3) := hQ.cell 2
                have r3 : WW.cell? ⟨w.heap.size, 3, none⟩ = some (Value.int .i64 x4) := hQ.cell 3
                have r4 : WW.cell? ⟨w.heap.size, 4, none⟩ = some (Value.slice B4 L4.length d4) := hQ.cell 4
                have r5 : WW.cell? ⟨w.heap.size, 5, none⟩ = some (Value.slice B5 L5.length d5) := hQ.cell 5
                have r6 : WW.cell? ⟨w.heap.size, 6, none⟩ = some (Value.slice B6 L6.length d6) := hQ.cell 6
                have HU := Lib.hid hU
                clear hQ hU m0 m1 m2 m3 m4 m5 m6 z0 z1 z2 z3 z4 z5 z6 y0 y1 y2 y3 y4 y5 y6
                dsimp only [Exit.then]
                go_wp2_with fail
                have huy : Upd (fun _ => False) wz wy := Upd.of_below HBY.out _
                have hzl := L3.out.tk.below.size
                have hlz := HU.out.lies (huy.lies L3.out.lz (fun _ _ _ _ h => h)) fun b o hb hp => not_in HHZ.out (fun i z => zero_u16 i z) (huy.lies L3.out.lz (fun _ _ _ _ h => h)) b o hb hp
                have k4 := ((L3.out.l4.upd huy (fun _ h => h.elim)).upd HU.out (fun g hg => by omega)).1
                have k5 := ((L3.out.l5.upd huy (fun _ h => h.elim)).upd HU.out (fun g hg => by omega)).1
                have k6 := ((L3.out.l6.upd huy (fun _ h => h.elim)).upd HU.out (fun g hg => by omega)).1
                exact bodyPost_ret (v := .tuple #[.slice A7 zs.length c7, man ⟨x1, x2, x3, x4, L4, L5, L6⟩ B4 B5 B6 d4 d5 d6, .int .i64 0]) (by simp [results, Try.results17, go_sem, r0, r1, r2, r3, r4, r5, r6]) rfl ⟨.slice A7 zs.length c7, ⟨x1, x2, x3, x4, L4, L5, L6⟩, B4, B5, B6, d4, d5, d6, 0, zs, rfl, HOK.out, ⟨A7, c7, rfl, hzc, hzm, hlz⟩, k4, k5, k6, HHB.out.trans (HU.out.below HHB.out.size (fun g hg => by omega))⟩
end Go.Proofs.Ytgcmbleinobneaa.Ip
