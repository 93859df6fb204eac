/- DERIVED. TxRPs, TxRPs2, TxPsW in one text. By an AI agent. -/
import Derived.Test.YthioplijcleioaaDoorTxFin
import Derived.Test.YthioplijcleioaaDoorTxMk
import Derived.Test.YthioplijcleioaaDoorTxIxm
/- DERIVED. The contract of the reference's Parse. By an AI agent. -/
namespace Go.Proofs.YthioplijcleioaaDoor.Tx
open Go.ChangeShapes Go.WideShapes Go.ChangeAt Go.RowKit Go.Lib Go.Sort Args
set_option linter.unusedVariables false
/-! How great the numbers of a text are, and how many. -/
theorem dgs_lt : ∀ (n : Nat) (l : Txt) (acc : Nat), (dgs n l acc).1 < (acc + 1) * 10 ^ n
  | 0, l, acc => by simp [dgs]
  | n + 1, [], acc => by
    show acc < (acc + 1) * 10 ^ (n + 1)
    have : 0 < 10 ^ (n + 1) := Nat.pow_pos (by decide)
    calc acc < acc + 1 := Nat.lt_succ_self _
      _ ≤ (acc + 1) * 10 ^ (n + 1) := Nat.le_mul_of_pos_right _ (by omega)
  | n + 1, x :: l, acc => by
    rw [dgs]
    split
    · next h =>
      have hx : x.toNat - 48 ≤ 9 := by unfold dgB at h; simp at h; omega
      have ih := dgs_lt n l (acc * 10 + (x.toNat - 48))
      have : (acc * 10 + (x.toNat - 48) + 1) * 10 ^ n ≤ (acc + 1) * 10 ^ (n + 1) := by
        rw [Nat.pow_succ, Nat.mul_comm (10 ^ n) 10, ← Nat.mul_assoc]
        exact Nat.mul_le_mul_right _ (by omega)
      omega
    · show acc < (acc + 1) * 10 ^ (n + 1)
      have : 0 < 10 ^ (n + 1) := Nat.pow_pos (by decide)
      calc acc < acc + 1 := Nat.lt_succ_self _
        _ ≤ (acc + 1) * 10 ^ (n + 1) := Nat.le_mul_of_pos_right _ (by omega)
theorem mk1_bd {l : Txt} {v : Int} (h : mk1 l = some v) : -1000000 < v ∧ v < 1000000 := by
  have hd : ∀ t, (dgs 6 t 0).1 < 1000000 := fun t => by have := dgs_lt 6 t 0; simpa using this
  rw [mk1.eq_def] at h
  split at h
  · cases h
  · next x r =>
    split at h
    · split at h
      · cases h
      · next y t =>
        split at h
        · cases h; have := hd (y :: t); omega
        · cases h
    · split at h
      · cases h; have := hd (x :: r); omega
      · cases h
theorem marks_bd : ∀ (l : Txt), (∀ v ∈ marks l, -1000000 < v ∧ v < 1000000) ∧ (marks l).length ≤ l.length
  | [] => ⟨nofun, Nat.le_refl _⟩
  | x :: l => by
    obtain ⟨i1, i2⟩ := marks_bd l
    rw [marks]
    split
    · split
      · next v hv =>
        refine ⟨fun u hu => ?_, by simp; omega⟩
        rcases List.mem_cons.1 hu with rfl | hu
        · exact mk1_bd hv
        · exact i1 u hu
      · exact ⟨i1, by simp; omega⟩
    · exact ⟨i1, by simp; omega⟩
theorem atL_bd (l : Txt) (i : Nat) : -1000000 < atL (marks l) i ∧ atL (marks l) i < 1000000 := by
  unfold atL
  by_cases h : i < (marks l).length
  · rw [List.getElem?_eq_getElem h]
    exact (marks_bd l).1 _ (List.getElem_mem h)
  · rw [List.getElem?_eq_none (by omega)]
    decide
/-- The instruction of a sort that three numbers tell. -/
def gsA (op : Nat) (a0 a1 a2 : Int) (kk : Nat) : Nm :=
  if op < 4 then ⟨a0, 0, 0, a1⟩
  else if op < 7 then ⟨a0, 0, a1, a2⟩
  else if op < 9 ∨ op = 14 ∨ op = 15 then ⟨a0, a1, a2, 0⟩
  else if op < 11 then ⟨a0, a1, 0, a2⟩
  else if op = 11 then ⟨a0, 0, a1, kk⟩
  else if op < 14 then ⟨a0, a1, 0, a2.tdiv 4⟩
  else if op = 16 then ⟨a0, 0, 0, a1.tdiv 4⟩
  else if op = 17 then ⟨0, 0, 0, a0.tdiv 2⟩
  else if op = 18 then ⟨kk, 0, 0, a0.tdiv 2⟩
  else if op = 20 then ⟨0, 0, 0, a0⟩
  else Nm.nul
theorem gs_gsA (op : Nat) (M : List Int) (kk : Nat) : gs op M kk = gsA op (atL M 0) (atL M 1) (atL M 2) kk := rfl
/-- The number that a round lays. -/
def setk (op : Nat) (s : Nm) (kk : Nat) : Nm := if op = 11 then { s with i := kk } else if op = 18 then { s with d := kk } else s
theorem setk_gs (op : Nat) (a0 a1 a2 : Int) (kk k : Nat) (hk : k < aHi op) (h0 : kk < aHi op) : setk op (gsA op a0 a1 a2 kk) k = gsA op a0 a1 a2 k := by
  unfold setk
  by_cases h11 : op = 11
  · subst h11; rfl
  · by_cases h18 : op = 18
    · subst h18; rfl
    · rw [if_neg h11, if_neg h18]
      unfold aHi at hk h0
      rw [if_neg h11, if_neg h18] at hk h0
      have e1 : k = 0 := by omega
      have e2 : kk = 0 := by omega
      rw [e1, e2]
/-- What has been tried: no sort below op, and of op none below kk, has this text. -/
def Tried (l : Txt) (a0 a1 a2 : Int) (op kk : Nat) : Prop := ∀ j k : Nat, (j < op ∧ k < aHi j) ∨ (j = op ∧ k < kk) → ¬ (ThRef.canB j (gsA j a0 a1 a2 k).d (gsA j a0 a1 a2 k).n (gsA j a0 a1 a2 k).m (gsA j a0 a1 a2 k).i = true ∧ showL j (gsA j a0 a1 a2 k) = l)
theorem Tried.none_ {l : Txt} (h : Tried l (atL (marks l) 0) (atL (marks l) 1) (atL (marks l) 2) 21 0) : ∀ (k : Nat) (s : Nm), Okk k s → showL k s ≠ l := fun k s hok he => by
  have hg := gs_show hok
  rw [he, gs_gsA] at hg
  refine h k (aOf k s) (.inl ⟨hok.hk, a_lt hok⟩) ?_
  rw [hg]
  exact ⟨(okk_of k hok.hk s.d s.n s.m s.i).2 hok, he⟩
theorem Tried.zero (l : Txt) (a0 a1 a2 : Int) : Tried l a0 a1 a2 0 0 := fun j k h => by omega
theorem Tried.next {l : Txt} {a0 a1 a2 : Int} {op kk : Nat} (h : Tried l a0 a1 a2 op kk) (hn : ¬ (ThRef.canB op (gsA op a0 a1 a2 kk).d (gsA op a0 a1 a2 kk).n (gsA op a0 a1 a2 kk).m (gsA op a0 a1 a2 kk).i = true ∧ showL op (gsA op a0 a1 a2 kk) = l)) : Tried l a0 a1 a2 op (kk + 1) := fun j k hjk => by
  by_cases he : j = op ∧ k = kk
  · obtain ⟨rfl, rfl⟩ := he; exact hn
  · exact h j k (by omega)
theorem Tried.up {l : Txt} {a0 a1 a2 : Int} {op : Nat} (h : Tried l a0 a1 a2 op (aHi op)) : Tried l a0 a1 a2 (op + 1) 0 := fun j k hjk => by
  rcases hjk with ⟨h1, h2⟩ | ⟨_, h2⟩
  · by_cases he : j = op
    · subst he; exact h j k (.inr ⟨rfl, h2⟩)
    · exact h j k (.inl ⟨by omega, h2⟩)
  · omega
end Go.Proofs.YthioplijcleioaaDoor.Tx
/- DERIVED. The contract of the reference's Parse: the walk. By an AI agent. -/
namespace Go.Proofs.YthioplijcleioaaDoor.Tx
open Go.ChangeShapes Go.WideShapes Go.ChangeAt Go.RowKit Go.Lib Go.Sort Args
set_option linter.unusedVariables false
/-- An instruction that lies in a block. -/
def InsAt (w : World) (b : Nat) (op : Int) (s : Nm) : Prop := Blk w b 23 #[.int .i64 op, .int .i64 s.d, .int .i64 s.n, .int .i64 s.m, .int .i64 s.i]
theorem td_in (a k : Int) (h0 : -1000000 < a) (h1 : a < 1000000) (hk : 0 < k) : IntKind.i64.wrap (a.tdiv k) = a.tdiv k := by
  have e : (a.tdiv k).natAbs ≤ a.natAbs := by
    rw [Int.natAbs_tdiv]
    exact Nat.div_le_self _ _
  rw [IntKind.wrap_i64]
  omega
set_option maxRecDepth 100000 in
set_option maxHeartbeats 40000000 in
theorem parseR (l : Txt) (hl : l.length ≤ 1000) (w : World) : Calls Tryd.prog 9 #[.string ⟨l.toArray⟩] w (PsEnd l w) := by
  have hmk := fun w => marksC ⟨l.toArray⟩ (by show l.toArray.size ≤ 100000; simp; omega) w
  have hml := (marks_bd l).2
  have b0 := atL_bd l 0; have b1 := atL_bd l 1; have b2 := atL_bd l 2
  have HT0 := Lib.hid (Tried.none_ (l := l))
  have hat := fun (A : Option Addr) (c i : Nat) (W : World) (hL : Lies W A (ivals (marks l))) => at_ A c (marks l).length (marks l) rfl i W hL (by omega)
  have e0 : (⟨l.toArray⟩ : ByteArray).data.toList = l := rfl
  rw [e0] at hmk
  have h0 := Blk.new w 23 #[.int .i64 0, .int .i64 0, .int .i64 0, .int .i64 0, .int .i64 0]
  have HMK := Lib.hid hmk; have HAT := Lib.hid hat; have H0 := Lib.hid h0
  clear hmk hat e0 h0 hml
  go_enter Tryd.func9, Tryd.ntmps9
  go_wp2_with fail
  refine (HMK.out _).mono ?_
  rintro e w1 ⟨A, c, rfl, ho, hb⟩
  have HL1 := Lib.hid (lies_own ho)
  have HR1 := Lib.hid (Blk.below H0.out hb (by simp))
  have HB1 := Lib.hid (((Below.refl w.heap.size w).alloc (Nat.le_refl _) (.cells #[.int .i64 0, .int .i64 0, .int .i64 0, .int .i64 0, .int .i64 0] 23)).trans (hb.mono (by simp)))
  have HS1 := Lib.hid (show w.heap.size < w1.heap.size from Blk.lt HR1.out)
  have ha0 := fun W (h : Below w1.heap.size w1 W) => HAT.out A c 0 W (HL1.out.below h)
  have ha1 := fun W (h : Below w1.heap.size w1 W) => HAT.out A c 1 W (HL1.out.below h)
  have ha2 := fun W (h : Below w1.heap.size w1 W) => HAT.out A c 2 W (HL1.out.below h)
  generalize atL (marks l) 0 = a0 at *
  generalize atL (marks l) 1 = a1 at *
  generalize atL (marks l) 2 = a2 at *
  have HA0 : Hid (∀ W, Below w1.heap.size w1 W → Calls Tryd.prog 18 #[.slice A (marks l).length c, .int .i64 0] W fun e w' => e = .returned (.int .i64 a0) ∧ W = w') := Lib.hid ha0
  have HA1 : Hid (∀ W, Below w1.heap.size w1 W → Calls Tryd.prog 18 #[.slice A (marks l).length c, .int .i64 1] W fun e w' => e = .returned (.int .i64 a1) ∧ W = w') := Lib.hid ha1
  have HA2 : Hid (∀ W, Below w1.heap.size w1 W → Calls Tryd.prog 18 #[.slice A (marks l).length c, .int .i64 2] W fun e w' => e = .returned (.int .i64 a2) ∧ W = w') := Lib.hid ha2
  have Z0 := Lib.hid b0; have Z1 := Lib.hid b1; have Z2 := Lib.hid b2
  clear ha0 ha1 ha2 HAT HMK H0 ho hb HL1 b0 b1 b2
  generalize (marks l).length = nM at *
  generalize hq1 : w1.heap.size = s1 at *
  have HQ1 := Lib.hid hq1
  clear hq1
  go_wp2_with fail
  have HY := Lib.hid (show ∀ (k : Nat) (s : Nm) (W : World), Okk k s → showL k s = l → Below w.heap.size w W → PsEnd l w (.returned (.tuple #[.agg #[.int .i64 k, .int .i64 s.d, .int .i64 s.n, .int .i64 s.m, .int .i64 s.i], .int .i64 0])) W from fun k s W h1 h2 h3 => ⟨Or.inl ⟨k, s, h1, h2, rfl⟩, h3⟩)
  have HN := Lib.hid (show ∀ (W : World), (∀ (k : Nat) (s : Nm), Okk k s → showL k s ≠ l) → Below w.heap.size w W → PsEnd l w (.returned (.tuple #[.agg #[.int .i64 0, .int .i64 0, .int .i64 0, .int .i64 0, .int .i64 0], .int .i64 4])) W from fun W h1 h3 => ⟨Or.inr ⟨h1, rfl⟩, h3⟩)
  go_loopg [5] 21 (fun g v wr => ∃ op : Nat, op ≤ 21 ∧ g = 21 - op ∧ v = .int .i64 op ∧ Hid (Below s1 w1 wr ∧ Tried l a0 a1 a2 op 0))
  case atStart => exact ⟨0, by omega, by omega, rfl, Lib.hid ⟨HQ1.out ▸ Below.refl _ _, Tried.zero _ _ _ _⟩⟩
  case round =>
    obtain ⟨op, hop, rfl, rfl, HH⟩ := hrel
    by_cases hlt : op < 21
    · have hopi : (op : Int) < 21 := by omega
      have hs1 := HH.out.1.size
      rw [HQ1.out] at hs1
      go_upto_if 22 with (go_at_call 18; refine (HA0.out _ HH.out.1).mono ?_; rintro e w' ⟨rfl, rfl⟩)
      have hI3 : InsAt (wr.alloc (.cells #[.int .i64 op, .int .i64 a0, .int .i64 0, .int .i64 0, .int .i64 0] 23)) wr.heap.size op ⟨a0, 0, 0, 0⟩ := Blk.new wr 23 _
      have hB3 : Below s1 w1 (wr.alloc (.cells #[.int .i64 op, .int .i64 a0, .int .i64 0, .int .i64 0, .int .i64 0] 23)) := HH.out.1.alloc hs1 _
      generalize wr.alloc (.cells #[.int .i64 op, .int .i64 a0, .int .i64 0, .int .i64 0, .int .i64 0] 23) = w3 at *
      generalize wr.heap.size = b at *
      have HI3 := Lib.hid hI3; have HB3 := Lib.hid hB3; have HS3 := Lib.hid hs1
      clear hI3 hB3 hs1
      go_cut [7] (fun v7 wx => v7 = .int .i64 (aHi op : Nat) ∧ Hid (InsAt wx b op (gsA op a0 a1 a2 0) ∧ Below s1 w1 wx))
      case first =>
        have c0 := HI3.out.cell 0; have c1 := HI3.out.cell 1; have c2 := HI3.out.cell 2; have c3 := HI3.out.cell 3; have c4 := HI3.out.cell 4
        have f0 := HI3.out.frozen 0; have f1 := HI3.out.frozen 1; have f2 := HI3.out.frozen 2; have f3 := HI3.out.frozen 3; have f4 := HI3.out.frozen 4
        simp only [List.getElem?_toArray, List.getElem?_cons_zero, List.getElem?_cons_succ] at c0 c1 c2 c3 c4
        obtain ⟨z0, z0'⟩ := Z0.out
        obtain ⟨z1, z1'⟩ := Z1.out
        obtain ⟨z2, z2'⟩ := Z2.out
        have t0 : IntKind.i64.wrap (a0.tdiv 2) = a0.tdiv 2 := td_in a0 2 z0 z0' (by decide)
        have t1 : IntKind.i64.wrap (a1.tdiv 4) = a1.tdiv 4 := td_in a1 4 z1 z1' (by decide)
        have t2 : IntKind.i64.wrap (a2.tdiv 4) = a2.tdiv 4 := td_in a2 4 z2 z2' (by decide)
        have hcs : op < 4 ∨ (4 ≤ op ∧ op < 7) ∨ (7 ≤ op ∧ op < 9) ∨ op = 14 ∨ op = 15 ∨ (9 ≤ op ∧ op < 11) ∨ op = 11 ∨ (12 ≤ op ∧ op < 14) ∨ op = 16 ∨ op = 17 ∨ op = 18 ∨ op = 20 ∨ op = 19 := by omega
        rcases hcs with hc | ⟨hc, hc2⟩ | ⟨hc, hc2⟩ | hc | hc | ⟨hc, hc2⟩ | hc | ⟨hc, hc2⟩ | hc | hc | hc | hc | hc
        · have hg : gsA op a0 a1 a2 0 = ⟨a0, 0, 0, a1⟩ := by unfold gsA; repeat (first | rw [if_pos (by omega)] | rw [if_neg (by omega)])
          have hh : aHi op = 1 := by unfold aHi; rw [if_neg (by omega), if_neg (by omega)]
          have q11 : ((op : Int) == 11) = false := by simp; omega
          have q14 : ((op : Int) == 14) = false := by simp; omega
          have q15 : ((op : Int) == 15) = false := by simp; omega
          have q16 : ((op : Int) == 16) = false := by simp; omega
          have q17 : ((op : Int) == 17) = false := by simp; omega
          have q18 : ((op : Int) == 18) = false := by simp; omega
          have q20 : ((op : Int) == 20) = false := by simp; omega
          have lo : (0 : Int) ≤ op := by omega
          have hi : (op : Int) ≤ 3 := by omega
          have HG := Lib.hid hg; have HH2 := Lib.hid hh
          clear hg hh hc
          go_wp2_with ((first | (go_at_call 18; (with_reducible refine (HA0.out _ HB3.out).mono ?_); rintro e w' ⟨rfl, rfl⟩) | (go_at_call 18; (with_reducible refine (HA1.out _ HB3.out).mono ?_); rintro e w' ⟨rfl, rfl⟩) | (go_at_call 18; (with_reducible refine (HA2.out _ HB3.out).mono ?_); rintro e w' ⟨rfl, rfl⟩)))
          go_meet
          exact ⟨by rw [HH2.out]; rfl, Lib.hid ⟨by rw [HG.out]; exact (Blk.set HI3.out 4 (.int .i64 a1)), (Below.setCell (p := ⟨b, 4, none⟩) HB3.out HS3.out (.int .i64 a1))⟩⟩
        · have hg : gsA op a0 a1 a2 0 = ⟨a0, 0, a1, a2⟩ := by unfold gsA; repeat (first | rw [if_pos (by omega)] | rw [if_neg (by omega)])
          have hh : aHi op = 1 := by unfold aHi; rw [if_neg (by omega), if_neg (by omega)]
          have q11 : ((op : Int) == 11) = false := by simp; omega
          have q14 : ((op : Int) == 14) = false := by simp; omega
          have q15 : ((op : Int) == 15) = false := by simp; omega
          have q16 : ((op : Int) == 16) = false := by simp; omega
          have q17 : ((op : Int) == 17) = false := by simp; omega
          have q18 : ((op : Int) == 18) = false := by simp; omega
          have q20 : ((op : Int) == 20) = false := by simp; omega
          have lo : (4 : Int) ≤ op := by omega
          have hi : (op : Int) ≤ 6 := by omega
          have HG := Lib.hid hg; have HH2 := Lib.hid hh
          clear hg hh hc hc2
          go_wp2_with ((first | (go_at_call 18; (with_reducible refine (HA0.out _ HB3.out).mono ?_); rintro e w' ⟨rfl, rfl⟩) | (go_at_call 18; (with_reducible refine (HA1.out _ HB3.out).mono ?_); rintro e w' ⟨rfl, rfl⟩) | (go_at_call 18; (with_reducible refine (HA2.out _ HB3.out).mono ?_); rintro e w' ⟨rfl, rfl⟩)))
          go_meet
          exact ⟨by rw [HH2.out]; rfl, Lib.hid ⟨by rw [HG.out]; exact (Blk.set (Blk.set HI3.out 3 (.int .i64 a1)) 4 (.int .i64 a2)), (Below.setCell (p := ⟨b, 4, none⟩) (Below.setCell (p := ⟨b, 3, none⟩) HB3.out HS3.out (.int .i64 a1)) HS3.out (.int .i64 a2))⟩⟩
        · have hg : gsA op a0 a1 a2 0 = ⟨a0, a1, a2, 0⟩ := by unfold gsA; repeat (first | rw [if_pos (by omega)] | rw [if_neg (by omega)])
          have hh : aHi op = 1 := by unfold aHi; rw [if_neg (by omega), if_neg (by omega)]
          have q11 : ((op : Int) == 11) = false := by simp; omega
          have q14 : ((op : Int) == 14) = false := by simp; omega
          have q15 : ((op : Int) == 15) = false := by simp; omega
          have q16 : ((op : Int) == 16) = false := by simp; omega
          have q17 : ((op : Int) == 17) = false := by simp; omega
          have q18 : ((op : Int) == 18) = false := by simp; omega
          have q20 : ((op : Int) == 20) = false := by simp; omega
          have lo : (7 : Int) ≤ op := by omega
          have hi : (op : Int) ≤ 8 := by omega
          have HG := Lib.hid hg; have HH2 := Lib.hid hh
          clear hg hh hc hc2
          go_wp2_with ((first | (go_at_call 18; (with_reducible refine (HA0.out _ HB3.out).mono ?_); rintro e w' ⟨rfl, rfl⟩) | (go_at_call 18; (with_reducible refine (HA1.out _ HB3.out).mono ?_); rintro e w' ⟨rfl, rfl⟩) | (go_at_call 18; (with_reducible refine (HA2.out _ HB3.out).mono ?_); rintro e w' ⟨rfl, rfl⟩)))
          go_meet
          exact ⟨by rw [HH2.out]; rfl, Lib.hid ⟨by rw [HG.out]; exact (Blk.set (Blk.set HI3.out 2 (.int .i64 a1)) 3 (.int .i64 a2)), (Below.setCell (p := ⟨b, 3, none⟩) (Below.setCell (p := ⟨b, 2, none⟩) HB3.out HS3.out (.int .i64 a1)) HS3.out (.int .i64 a2))⟩⟩
        · have hg : gsA op a0 a1 a2 0 = ⟨a0, a1, a2, 0⟩ := by unfold gsA; subst hc; rfl
          have hh : aHi op = 1 := by unfold aHi; subst hc; rfl
          have q11 : ((op : Int) == 11) = false := by simp; omega
          have q14 : ((op : Int) == 14) = true := by simp; omega
          have q15 : ((op : Int) == 15) = false := by simp; omega
          have q16 : ((op : Int) == 16) = false := by simp; omega
          have q17 : ((op : Int) == 17) = false := by simp; omega
          have q18 : ((op : Int) == 18) = false := by simp; omega
          have q20 : ((op : Int) == 20) = false := by simp; omega
          have lo : (14 : Int) ≤ op := by omega
          have hi : (op : Int) ≤ 14 := by omega
          have HG := Lib.hid hg; have HH2 := Lib.hid hh
          clear hg hh hc
          go_wp2_with ((first | (go_at_call 18; (with_reducible refine (HA0.out _ HB3.out).mono ?_); rintro e w' ⟨rfl, rfl⟩) | (go_at_call 18; (with_reducible refine (HA1.out _ HB3.out).mono ?_); rintro e w' ⟨rfl, rfl⟩) | (go_at_call 18; (with_reducible refine (HA2.out _ HB3.out).mono ?_); rintro e w' ⟨rfl, rfl⟩)))
          go_meet
          exact ⟨by rw [HH2.out]; rfl, Lib.hid ⟨by rw [HG.out]; exact (Blk.set (Blk.set HI3.out 2 (.int .i64 a1)) 3 (.int .i64 a2)), (Below.setCell (p := ⟨b, 3, none⟩) (Below.setCell (p := ⟨b, 2, none⟩) HB3.out HS3.out (.int .i64 a1)) HS3.out (.int .i64 a2))⟩⟩
        · have hg : gsA op a0 a1 a2 0 = ⟨a0, a1, a2, 0⟩ := by unfold gsA; subst hc; rfl
          have hh : aHi op = 1 := by unfold aHi; subst hc; rfl
          have q11 : ((op : Int) == 11) = false := by simp; omega
          have q14 : ((op : Int) == 14) = false := by simp; omega
          have q15 : ((op : Int) == 15) = true := by simp; omega
          have q16 : ((op : Int) == 16) = false := by simp; omega
          have q17 : ((op : Int) == 17) = false := by simp; omega
          have q18 : ((op : Int) == 18) = false := by simp; omega
          have q20 : ((op : Int) == 20) = false := by simp; omega
          have lo : (15 : Int) ≤ op := by omega
          have hi : (op : Int) ≤ 15 := by omega
          have HG := Lib.hid hg; have HH2 := Lib.hid hh
          clear hg hh hc
          go_wp2_with ((first | (go_at_call 18; (with_reducible refine (HA0.out _ HB3.out).mono ?_); rintro e w' ⟨rfl, rfl⟩) | (go_at_call 18; (with_reducible refine (HA1.out _ HB3.out).mono ?_); rintro e w' ⟨rfl, rfl⟩) | (go_at_call 18; (with_reducible refine (HA2.out _ HB3.out).mono ?_); rintro e w' ⟨rfl, rfl⟩)))
          go_meet
          exact ⟨by rw [HH2.out]; rfl, Lib.hid ⟨by rw [HG.out]; exact (Blk.set (Blk.set HI3.out 2 (.int .i64 a1)) 3 (.int .i64 a2)), (Below.setCell (p := ⟨b, 3, none⟩) (Below.setCell (p := ⟨b, 2, none⟩) HB3.out HS3.out (.int .i64 a1)) HS3.out (.int .i64 a2))⟩⟩
        · have hg : gsA op a0 a1 a2 0 = ⟨a0, a1, 0, a2⟩ := by unfold gsA; repeat (first | rw [if_pos (by omega)] | rw [if_neg (by omega)])
          have hh : aHi op = 1 := by unfold aHi; rw [if_neg (by omega), if_neg (by omega)]
          have q11 : ((op : Int) == 11) = false := by simp; omega
          have q14 : ((op : Int) == 14) = false := by simp; omega
          have q15 : ((op : Int) == 15) = false := by simp; omega
          have q16 : ((op : Int) == 16) = false := by simp; omega
          have q17 : ((op : Int) == 17) = false := by simp; omega
          have q18 : ((op : Int) == 18) = false := by simp; omega
          have q20 : ((op : Int) == 20) = false := by simp; omega
          have lo : (9 : Int) ≤ op := by omega
          have hi : (op : Int) ≤ 10 := by omega
          have HG := Lib.hid hg; have HH2 := Lib.hid hh
          clear hg hh hc hc2
          go_wp2_with ((first | (go_at_call 18; (with_reducible refine (HA0.out _ HB3.out).mono ?_); rintro e w' ⟨rfl, rfl⟩) | (go_at_call 18; (with_reducible refine (HA1.out _ HB3.out).mono ?_); rintro e w' ⟨rfl, rfl⟩) | (go_at_call 18; (with_reducible refine (HA2.out _ HB3.out).mono ?_); rintro e w' ⟨rfl, rfl⟩)))
          go_meet
          exact ⟨by rw [HH2.out]; rfl, Lib.hid ⟨by rw [HG.out]; exact (Blk.set (Blk.set HI3.out 2 (.int .i64 a1)) 4 (.int .i64 a2)), (Below.setCell (p := ⟨b, 4, none⟩) (Below.setCell (p := ⟨b, 2, none⟩) HB3.out HS3.out (.int .i64 a1)) HS3.out (.int .i64 a2))⟩⟩
        · have hg : gsA op a0 a1 a2 0 = ⟨a0, 0, a1, ((0 : Nat) : Int)⟩ := by unfold gsA; subst hc; rfl
          have hh : aHi op = 16 := by unfold aHi; subst hc; rfl
          have q11 : ((op : Int) == 11) = true := by simp; omega
          have q14 : ((op : Int) == 14) = false := by simp; omega
          have q15 : ((op : Int) == 15) = false := by simp; omega
          have q16 : ((op : Int) == 16) = false := by simp; omega
          have q17 : ((op : Int) == 17) = false := by simp; omega
          have q18 : ((op : Int) == 18) = false := by simp; omega
          have q20 : ((op : Int) == 20) = false := by simp; omega
          have lo : (11 : Int) ≤ op := by omega
          have hi : (op : Int) ≤ 11 := by omega
          have HG := Lib.hid hg; have HH2 := Lib.hid hh
          clear hg hh hc
          go_wp2_with ((first | (go_at_call 18; (with_reducible refine (HA0.out _ HB3.out).mono ?_); rintro e w' ⟨rfl, rfl⟩) | (go_at_call 18; (with_reducible refine (HA1.out _ HB3.out).mono ?_); rintro e w' ⟨rfl, rfl⟩) | (go_at_call 18; (with_reducible refine (HA2.out _ HB3.out).mono ?_); rintro e w' ⟨rfl, rfl⟩)))
          go_meet
          exact ⟨by rw [HH2.out]; rfl, Lib.hid ⟨by rw [HG.out]; exact (Blk.set HI3.out 3 (.int .i64 a1)), (Below.setCell (p := ⟨b, 3, none⟩) HB3.out HS3.out (.int .i64 a1))⟩⟩
        · have hg : gsA op a0 a1 a2 0 = ⟨a0, a1, 0, a2.tdiv 4⟩ := by unfold gsA; repeat (first | rw [if_pos (by omega)] | rw [if_neg (by omega)])
          have hh : aHi op = 1 := by unfold aHi; rw [if_neg (by omega), if_neg (by omega)]
          have q11 : ((op : Int) == 11) = false := by simp; omega
          have q14 : ((op : Int) == 14) = false := by simp; omega
          have q15 : ((op : Int) == 15) = false := by simp; omega
          have q16 : ((op : Int) == 16) = false := by simp; omega
          have q17 : ((op : Int) == 17) = false := by simp; omega
          have q18 : ((op : Int) == 18) = false := by simp; omega
          have q20 : ((op : Int) == 20) = false := by simp; omega
          have lo : (12 : Int) ≤ op := by omega
          have hi : (op : Int) ≤ 13 := by omega
          have HG := Lib.hid hg; have HH2 := Lib.hid hh
          clear hg hh hc hc2
          go_wp2_with ((first | (go_at_call 18; (with_reducible refine (HA0.out _ HB3.out).mono ?_); rintro e w' ⟨rfl, rfl⟩) | (go_at_call 18; (with_reducible refine (HA1.out _ HB3.out).mono ?_); rintro e w' ⟨rfl, rfl⟩) | (go_at_call 18; (with_reducible refine (HA2.out _ HB3.out).mono ?_); rintro e w' ⟨rfl, rfl⟩)))
          go_meet
          exact ⟨by rw [HH2.out]; rfl, Lib.hid ⟨by rw [HG.out]; exact (Blk.set (Blk.set HI3.out 2 (.int .i64 a1)) 4 (.int .i64 (a2.tdiv 4))), (Below.setCell (p := ⟨b, 4, none⟩) (Below.setCell (p := ⟨b, 2, none⟩) HB3.out HS3.out (.int .i64 a1)) HS3.out (.int .i64 (a2.tdiv 4)))⟩⟩
        · have hg : gsA op a0 a1 a2 0 = ⟨a0, 0, 0, a1.tdiv 4⟩ := by unfold gsA; subst hc; rfl
          have hh : aHi op = 1 := by unfold aHi; subst hc; rfl
          have q11 : ((op : Int) == 11) = false := by simp; omega
          have q14 : ((op : Int) == 14) = false := by simp; omega
          have q15 : ((op : Int) == 15) = false := by simp; omega
          have q16 : ((op : Int) == 16) = true := by simp; omega
          have q17 : ((op : Int) == 17) = false := by simp; omega
          have q18 : ((op : Int) == 18) = false := by simp; omega
          have q20 : ((op : Int) == 20) = false := by simp; omega
          have lo : (16 : Int) ≤ op := by omega
          have hi : (op : Int) ≤ 16 := by omega
          have HG := Lib.hid hg; have HH2 := Lib.hid hh
          clear hg hh hc
          go_wp2_with ((first | (go_at_call 18; (with_reducible refine (HA0.out _ HB3.out).mono ?_); rintro e w' ⟨rfl, rfl⟩) | (go_at_call 18; (with_reducible refine (HA1.out _ HB3.out).mono ?_); rintro e w' ⟨rfl, rfl⟩) | (go_at_call 18; (with_reducible refine (HA2.out _ HB3.out).mono ?_); rintro e w' ⟨rfl, rfl⟩)))
          go_meet
          exact ⟨by rw [HH2.out]; rfl, Lib.hid ⟨by rw [HG.out]; exact (Blk.set HI3.out 4 (.int .i64 (a1.tdiv 4))), (Below.setCell (p := ⟨b, 4, none⟩) HB3.out HS3.out (.int .i64 (a1.tdiv 4)))⟩⟩
        · have hg : gsA op a0 a1 a2 0 = ⟨0, 0, 0, a0.tdiv 2⟩ := by unfold gsA; subst hc; rfl
          have hh : aHi op = 1 := by unfold aHi; subst hc; rfl
          have q11 : ((op : Int) == 11) = false := by simp; omega
          have q14 : ((op : Int) == 14) = false := by simp; omega
          have q15 : ((op : Int) == 15) = false := by simp; omega
          have q16 : ((op : Int) == 16) = false := by simp; omega
          have q17 : ((op : Int) == 17) = true := by simp; omega
          have q18 : ((op : Int) == 18) = false := by simp; omega
          have q20 : ((op : Int) == 20) = false := by simp; omega
          have lo : (17 : Int) ≤ op := by omega
          have hi : (op : Int) ≤ 17 := by omega
          have HG := Lib.hid hg; have HH2 := Lib.hid hh
          clear hg hh hc
          go_wp2_with ((first | (go_at_call 18; (with_reducible refine (HA0.out _ HB3.out).mono ?_); rintro e w' ⟨rfl, rfl⟩) | (go_at_call 18; (with_reducible refine (HA1.out _ HB3.out).mono ?_); rintro e w' ⟨rfl, rfl⟩) | (go_at_call 18; (with_reducible refine (HA2.out _ HB3.out).mono ?_); rintro e w' ⟨rfl, rfl⟩)))
          go_meet
          exact ⟨by rw [HH2.out]; rfl, Lib.hid ⟨by rw [HG.out]; exact (Blk.set (Blk.set HI3.out 1 (.int .i64 0)) 4 (.int .i64 (a0.tdiv 2))), (Below.setCell (p := ⟨b, 4, none⟩) (Below.setCell (p := ⟨b, 1, none⟩) HB3.out HS3.out (.int .i64 0)) HS3.out (.int .i64 (a0.tdiv 2)))⟩⟩
        · have hg : gsA op a0 a1 a2 0 = ⟨((0 : Nat) : Int), 0, 0, a0.tdiv 2⟩ := by unfold gsA; subst hc; rfl
          have hh : aHi op = 14 := by unfold aHi; subst hc; rfl
          have q11 : ((op : Int) == 11) = false := by simp; omega
          have q14 : ((op : Int) == 14) = false := by simp; omega
          have q15 : ((op : Int) == 15) = false := by simp; omega
          have q16 : ((op : Int) == 16) = false := by simp; omega
          have q17 : ((op : Int) == 17) = false := by simp; omega
          have q18 : ((op : Int) == 18) = true := by simp; omega
          have q20 : ((op : Int) == 20) = false := by simp; omega
          have lo : (18 : Int) ≤ op := by omega
          have hi : (op : Int) ≤ 18 := by omega
          have HG := Lib.hid hg; have HH2 := Lib.hid hh
          clear hg hh hc
          go_wp2_with ((first | (go_at_call 18; (with_reducible refine (HA0.out _ HB3.out).mono ?_); rintro e w' ⟨rfl, rfl⟩) | (go_at_call 18; (with_reducible refine (HA1.out _ HB3.out).mono ?_); rintro e w' ⟨rfl, rfl⟩) | (go_at_call 18; (with_reducible refine (HA2.out _ HB3.out).mono ?_); rintro e w' ⟨rfl, rfl⟩)))
          go_meet
          exact ⟨by rw [HH2.out]; rfl, Lib.hid ⟨by rw [HG.out]; exact (Blk.set (Blk.set HI3.out 1 (.int .i64 0)) 4 (.int .i64 (a0.tdiv 2))), (Below.setCell (p := ⟨b, 4, none⟩) (Below.setCell (p := ⟨b, 1, none⟩) HB3.out HS3.out (.int .i64 0)) HS3.out (.int .i64 (a0.tdiv 2)))⟩⟩
        · have hg : gsA op a0 a1 a2 0 = ⟨0, 0, 0, a0⟩ := by unfold gsA; subst hc; rfl
          have hh : aHi op = 1 := by unfold aHi; subst hc; rfl
          have q11 : ((op : Int) == 11) = false := by simp; omega
          have q14 : ((op : Int) == 14) = false := by simp; omega
          have q15 : ((op : Int) == 15) = false := by simp; omega
          have q16 : ((op : Int) == 16) = false := by simp; omega
          have q17 : ((op : Int) == 17) = false := by simp; omega
          have q18 : ((op : Int) == 18) = false := by simp; omega
          have q20 : ((op : Int) == 20) = true := by simp; omega
          have lo : (20 : Int) ≤ op := by omega
          have hi : (op : Int) ≤ 20 := by omega
          have HG := Lib.hid hg; have HH2 := Lib.hid hh
          clear hg hh hc
          go_wp2_with ((first | (go_at_call 18; (with_reducible refine (HA0.out _ HB3.out).mono ?_); rintro e w' ⟨rfl, rfl⟩) | (go_at_call 18; (with_reducible refine (HA1.out _ HB3.out).mono ?_); rintro e w' ⟨rfl, rfl⟩) | (go_at_call 18; (with_reducible refine (HA2.out _ HB3.out).mono ?_); rintro e w' ⟨rfl, rfl⟩)))
          go_meet
          exact ⟨by rw [HH2.out]; rfl, Lib.hid ⟨by rw [HG.out]; exact (Blk.set (Blk.set HI3.out 1 (.int .i64 0)) 4 (.int .i64 a0)), (Below.setCell (p := ⟨b, 4, none⟩) (Below.setCell (p := ⟨b, 1, none⟩) HB3.out HS3.out (.int .i64 0)) HS3.out (.int .i64 a0))⟩⟩
        · have hg : gsA op a0 a1 a2 0 = Nm.nul := by unfold gsA; subst hc; rfl
          have hh : aHi op = 1 := by unfold aHi; subst hc; rfl
          have q11 : ((op : Int) == 11) = false := by simp; omega
          have q14 : ((op : Int) == 14) = false := by simp; omega
          have q15 : ((op : Int) == 15) = false := by simp; omega
          have q16 : ((op : Int) == 16) = false := by simp; omega
          have q17 : ((op : Int) == 17) = false := by simp; omega
          have q18 : ((op : Int) == 18) = false := by simp; omega
          have q20 : ((op : Int) == 20) = false := by simp; omega
          have lo : (19 : Int) ≤ op := by omega
          have hi : (op : Int) ≤ 19 := by omega
          have HG := Lib.hid hg; have HH2 := Lib.hid hh
          clear hg hh hc
          go_wp2_with ((first | (go_at_call 18; (with_reducible refine (HA0.out _ HB3.out).mono ?_); rintro e w' ⟨rfl, rfl⟩) | (go_at_call 18; (with_reducible refine (HA1.out _ HB3.out).mono ?_); rintro e w' ⟨rfl, rfl⟩) | (go_at_call 18; (with_reducible refine (HA2.out _ HB3.out).mono ?_); rintro e w' ⟨rfl, rfl⟩)))
          go_meet
          exact ⟨by rw [HH2.out]; rfl, Lib.hid ⟨by rw [HG.out]; exact (Blk.set HI3.out 1 (.int .i64 0)), (Below.setCell (p := ⟨b, 1, none⟩) HB3.out HS3.out (.int .i64 0))⟩⟩
      case rest =>
        obtain ⟨rfl, HK⟩ := hcut
        have HT := Lib.hid HH.out.2
        have hHi : aHi op ≤ 16 := by unfold aHi; (repeat' split) <;> omega
        go_wp2_with fail
        go_loopg [8] (aHi op) (fun g v8 wr2 => ∃ (k : Nat) (s0 : Nm), k ≤ aHi op ∧ g = aHi op - k ∧ v8 = .int .i64 k ∧ Hid (InsAt wr2 b op s0 ∧ (∀ j, j < aHi op → setk op s0 j = gsA op a0 a1 a2 j) ∧ Below s1 w1 wr2 ∧ Tried l a0 a1 a2 op k))
        case atStart => exact ⟨0, _, by omega, by omega, rfl, Lib.hid ⟨HK.out.1, fun j hj => setk_gs op a0 a1 a2 0 j hj (by omega), HK.out.2, HT.out⟩⟩
        case round =>
          obtain ⟨k, s0, hk, rfl, rfl, HJ⟩ := hrel
          by_cases hlk : k < aHi op
          · have hki : (k : Int) < (aHi op : Nat) := by omega
            obtain ⟨s, hs⟩ : ∃ s, s = setk op s0 k := ⟨_, rfl⟩
            have HSG := Lib.hid (hs.trans (HJ.out.2.1 k hlk))
            have HNX := Lib.hid (fun h => Tried.next (h := HJ.out.2.2.2) (hn := h))
            have hcs : op = 11 ∨ op = 18 ∨ (op ≠ 11 ∧ op ≠ 18) := by omega
            rcases hcs with hc | hc | ⟨hc, hc2⟩
            · have q11 : ((op : Int) == 11) = true := by simp; omega
              have q18 : ((op : Int) == 18) = false := by simp; omega
              have hI4 : InsAt (wr.setCell ⟨b, 4, none⟩ (.int .i64 k)) b op s := by rw [hs]; unfold setk; rw [if_pos hc]; exact Blk.set HJ.out.1 4 (.int .i64 k)
              have hB4 : Below s1 w1 (wr.setCell ⟨b, 4, none⟩ (.int .i64 k)) := Below.setCell (p := ⟨b, 4, none⟩) HJ.out.2.2.1 HS3.out (.int .i64 k)
              have HI4 := Lib.hid hI4; have HB4 := Lib.hid hB4
              have c0 := HJ.out.1.cell 0; have c1 := HJ.out.1.cell 1; have c2 := HJ.out.1.cell 2; have c3 := HJ.out.1.cell 3; have c4 := HJ.out.1.cell 4
              simp only [List.getElem?_toArray, List.getElem?_cons_zero, List.getElem?_cons_succ] at c0 c1 c2 c3 c4
              have f0 := HJ.out.1.frozen 0; have f1 := HJ.out.1.frozen 1; have f2 := HJ.out.1.frozen 2; have f3 := HJ.out.1.frozen 3; have f4 := HJ.out.1.frozen 4
              clear hs hI4 hB4 hc
              go_upto_region 34 with fail
              clear c0 c1 c2 c3 c4 f0 f1 f2 f3 f4
              generalize (wr.setCell ⟨b, 4, none⟩ (.int .i64 k)) = wy at *
              have c0 := HI4.out.cell 0; have c1 := HI4.out.cell 1; have c2 := HI4.out.cell 2; have c3 := HI4.out.cell 3; have c4 := HI4.out.cell 4
              simp only [List.getElem?_toArray, List.getElem?_cons_zero, List.getElem?_cons_succ] at c0 c1 c2 c3 c4
              go_wp2_with fail
              refine (TxR.showR op s.d s.n s.m s.i wy).mono ?_
              rintro e W4 ⟨rfl, hb4⟩
              have HI5 := Lib.hid (Blk.below HI4.out hb4 (Blk.lt HI4.out))
              have HB5 := Lib.hid (HB4.out.trans (hb4.mono (Nat.le_of_lt (Nat.lt_of_le_of_lt HS3.out (Blk.lt HI4.out)))))
              clear c0 c1 c2 c3 c4 hb4 HI4 HB4
              by_cases hcb : ThRef.canB op s.d s.n s.m s.i = true
              · have hv : shwV op s.d s.n s.m s.i = .tuple #[.string ⟨(showL op s).toArray⟩, .bool true] := by unfold shwV; rw [if_pos hcb]; rfl
                rw [hv]
                clear hv
                by_cases heq : showL op s = l
                · have e1 : (showL op s == l) = true := by rw [heq]; simp
                  have HOK := Lib.hid ((okk_of op hlt _ _ _ _).1 hcb); have HEQ := Lib.hid heq
                  have HR5 := Lib.hid (Blk.below HR1.out HB5.out HS1.out)
                  have HL5 := Lib.hid (HB1.out.trans (HB5.out.mono (Nat.le_of_lt HS1.out)))
                  have c0 := HI5.out.cell 0; have c1 := HI5.out.cell 1; have c2 := HI5.out.cell 2; have c3 := HI5.out.cell 3; have c4 := HI5.out.cell 4
                  simp only [List.getElem?_toArray, List.getElem?_cons_zero, List.getElem?_cons_succ] at c0 c1 c2 c3 c4
                  clear heq hcb
                  generalize showL op s = OUT at e1 ⊢
                  have HE := Lib.hid (blk5 HR5.out (.int .i64 op) (.int .i64 s.d) (.int .i64 s.n) (.int .i64 s.m) (.int .i64 s.i))
                  have r0 := HR5.out.cell 0; have r1 := HR5.out.cell 1; have r2 := HR5.out.cell 2; have r3 := HR5.out.cell 3; have r4 := HR5.out.cell 4
                  simp only [List.getElem?_toArray, List.getElem?_cons_zero, List.getElem?_cons_succ] at r0 r1 r2 r3 r4
                  have g0 := HR5.out.frozen 0; have g1 := HR5.out.frozen 1; have g2 := HR5.out.frozen 2; have g3 := HR5.out.frozen 3; have g4 := HR5.out.frozen 4
                  go_wp2_with fail
                  have hlo : Below w.heap.size w (((((W4.setCell ⟨w.heap.size, 0, none⟩ (.int .i64 op)).setCell ⟨w.heap.size, 1, none⟩ (.int .i64 s.d)).setCell ⟨w.heap.size, 2, none⟩ (.int .i64 s.n)).setCell ⟨w.heap.size, 3, none⟩ (.int .i64 s.m)).setCell ⟨w.heap.size, 4, none⟩ (.int .i64 s.i)) := ((((((HL5.out).setCell (p := ⟨w.heap.size, 0, none⟩) (Nat.le_refl _) _).setCell (p := ⟨w.heap.size, 1, none⟩) (Nat.le_refl _) _).setCell (p := ⟨w.heap.size, 2, none⟩) (Nat.le_refl _) _).setCell (p := ⟨w.heap.size, 3, none⟩) (Nat.le_refl _) _).setCell (p := ⟨w.heap.size, 4, none⟩) (Nat.le_refl _) _)
                  have hE := HE.out
                  clear r0 r1 r2 r3 r4 g0 g1 g2 g3 g4 HE
                  generalize (((((W4.setCell ⟨w.heap.size, 0, none⟩ (.int .i64 op)).setCell ⟨w.heap.size, 1, none⟩ (.int .i64 s.d)).setCell ⟨w.heap.size, 2, none⟩ (.int .i64 s.n)).setCell ⟨w.heap.size, 3, none⟩ (.int .i64 s.m)).setCell ⟨w.heap.size, 4, none⟩ (.int .i64 s.i)) = W6 at *
                  have y0 := hE.cell 0; have y1 := hE.cell 1; have y2 := hE.cell 2; have y3 := hE.cell 3; have y4 := hE.cell 4
                  simp only [List.getElem?_toArray, List.getElem?_cons_zero, List.getElem?_cons_succ] at y0 y1 y2 y3 y4
                  exact bodyPost_ret (v := .tuple #[.agg #[.int .i64 op, .int .i64 s.d, .int .i64 s.n, .int .i64 s.m, .int .i64 s.i], .int .i64 0]) (by simp [results, Tryd.results9, go_sem, y0, y1, y2, y3, y4]) rfl (HY.out op s W6 HOK.out HEQ.out hlo)
                · have e1 : (showL op s == l) = false := by simpa using heq
                  have HNN := Lib.hid (HNX.out (fun hh => heq (HSG.out ▸ hh.2)))
                  have HKS := Lib.hid HJ.out.2.1
                  clear heq hcb
                  generalize showL op s = OUT at e1 ⊢
                  go_wp2_with fail
                  go_roundg (aHi op - (k + 1))
                  case measure => omega
                  case rel => exact ⟨k + 1, s, by omega, by omega, by go_num, Lib.hid ⟨HI5.out, fun j hj => by rw [HSG.out]; exact setk_gs op a0 a1 a2 k j hj hlk, HB5.out, HNN.out⟩⟩
              · have hv : shwV op s.d s.n s.m s.i = .tuple #[.string ⟨#[]⟩, .bool false] := by unfold shwV; rw [if_neg hcb]
                rw [hv]
                have HNN := Lib.hid (HNX.out (fun hh => hcb (HSG.out ▸ hh.1)))
                clear hv hcb
                go_wp2_with fail
                go_roundg (aHi op - (k + 1))
                case measure => omega
                case rel => exact ⟨k + 1, s, by omega, by omega, by go_num, Lib.hid ⟨HI5.out, fun j hj => by rw [HSG.out]; exact setk_gs op a0 a1 a2 k j hj hlk, HB5.out, HNN.out⟩⟩
            · have q11 : ((op : Int) == 11) = false := by simp; omega
              have q18 : ((op : Int) == 18) = true := by simp; omega
              have hI4 : InsAt (wr.setCell ⟨b, 1, none⟩ (.int .i64 k)) b op s := by rw [hs]; unfold setk; rw [if_neg (by omega), if_pos hc]; exact Blk.set HJ.out.1 1 (.int .i64 k)
              have hB4 : Below s1 w1 (wr.setCell ⟨b, 1, none⟩ (.int .i64 k)) := Below.setCell (p := ⟨b, 1, none⟩) HJ.out.2.2.1 HS3.out (.int .i64 k)
              have HI4 := Lib.hid hI4; have HB4 := Lib.hid hB4
              have c0 := HJ.out.1.cell 0; have c1 := HJ.out.1.cell 1; have c2 := HJ.out.1.cell 2; have c3 := HJ.out.1.cell 3; have c4 := HJ.out.1.cell 4
              simp only [List.getElem?_toArray, List.getElem?_cons_zero, List.getElem?_cons_succ] at c0 c1 c2 c3 c4
              have f0 := HJ.out.1.frozen 0; have f1 := HJ.out.1.frozen 1; have f2 := HJ.out.1.frozen 2; have f3 := HJ.out.1.frozen 3; have f4 := HJ.out.1.frozen 4
              clear hs hI4 hB4 hc
              go_upto_region 34 with fail
              clear c0 c1 c2 c3 c4 f0 f1 f2 f3 f4
              generalize (wr.setCell ⟨b, 1, none⟩ (.int .i64 k)) = wy at *
              have c0 := HI4.out.cell 0; have c1 := HI4.out.cell 1; have c2 := HI4.out.cell 2; have c3 := HI4.out.cell 3; have c4 := HI4.out.cell 4
              simp only [List.getElem?_toArray, List.getElem?_cons_zero, List.getElem?_cons_succ] at c0 c1 c2 c3 c4
              go_wp2_with fail
              refine (TxR.showR op s.d s.n s.m s.i wy).mono ?_
              rintro e W4 ⟨rfl, hb4⟩
              have HI5 := Lib.hid (Blk.below HI4.out hb4 (Blk.lt HI4.out))
              have HB5 := Lib.hid (HB4.out.trans (hb4.mono (Nat.le_of_lt (Nat.lt_of_le_of_lt HS3.out (Blk.lt HI4.out)))))
              clear c0 c1 c2 c3 c4 hb4 HI4 HB4
              by_cases hcb : ThRef.canB op s.d s.n s.m s.i = true
              · have hv : shwV op s.d s.n s.m s.i = .tuple #[.string ⟨(showL op s).toArray⟩, .bool true] := by unfold shwV; rw [if_pos hcb]; rfl
                rw [hv]
                clear hv
                by_cases heq : showL op s = l
                · have e1 : (showL op s == l) = true := by rw [heq]; simp
                  have HOK := Lib.hid ((okk_of op hlt _ _ _ _).1 hcb); have HEQ := Lib.hid heq
                  have HR5 := Lib.hid (Blk.below HR1.out HB5.out HS1.out)
                  have HL5 := Lib.hid (HB1.out.trans (HB5.out.mono (Nat.le_of_lt HS1.out)))
                  have c0 := HI5.out.cell 0; have c1 := HI5.out.cell 1; have c2 := HI5.out.cell 2; have c3 := HI5.out.cell 3; have c4 := HI5.out.cell 4
                  simp only [List.getElem?_toArray, List.getElem?_cons_zero, List.getElem?_cons_succ] at c0 c1 c2 c3 c4
                  clear heq hcb
                  generalize showL op s = OUT at e1 ⊢
                  have HE := Lib.hid (blk5 HR5.out (.int .i64 op) (.int .i64 s.d) (.int .i64 s.n) (.int .i64 s.m) (.int .i64 s.i))
                  have r0 := HR5.out.cell 0; have r1 := HR5.out.cell 1; have r2 := HR5.out.cell 2; have r3 := HR5.out.cell 3; have r4 := HR5.out.cell 4
                  simp only [List.getElem?_toArray, List.getElem?_cons_zero, List.getElem?_cons_succ] at r0 r1 r2 r3 r4
                  have g0 := HR5.out.frozen 0; have g1 := HR5.out.frozen 1; have g2 := HR5.out.frozen 2; have g3 := HR5.out.frozen 3; have g4 := HR5.out.frozen 4
                  go_wp2_with fail
                  have hlo : Below w.heap.size w (((((W4.setCell ⟨w.heap.size, 0, none⟩ (.int .i64 op)).setCell ⟨w.heap.size, 1, none⟩ (.int .i64 s.d)).setCell ⟨w.heap.size, 2, none⟩ (.int .i64 s.n)).setCell ⟨w.heap.size, 3, none⟩ (.int .i64 s.m)).setCell ⟨w.heap.size, 4, none⟩ (.int .i64 s.i)) := ((((((HL5.out).setCell (p := ⟨w.heap.size, 0, none⟩) (Nat.le_refl _) _).setCell (p := ⟨w.heap.size, 1, none⟩) (Nat.le_refl _) _).setCell (p := ⟨w.heap.size, 2, none⟩) (Nat.le_refl _) _).setCell (p := ⟨w.heap.size, 3, none⟩) (Nat.le_refl _) _).setCell (p := ⟨w.heap.size, 4, none⟩) (Nat.le_refl _) _)
                  have hE := HE.out
                  clear r0 r1 r2 r3 r4 g0 g1 g2 g3 g4 HE
                  generalize (((((W4.setCell ⟨w.heap.size, 0, none⟩ (.int .i64 op)).setCell ⟨w.heap.size, 1, none⟩ (.int .i64 s.d)).setCell ⟨w.heap.size, 2, none⟩ (.int .i64 s.n)).setCell ⟨w.heap.size, 3, none⟩ (.int .i64 s.m)).setCell ⟨w.heap.size, 4, none⟩ (.int .i64 s.i)) = W6 at *
                  have y0 := hE.cell 0; have y1 := hE.cell 1; have y2 := hE.cell 2; have y3 := hE.cell 3; have y4 := hE.cell 4
                  simp only [List.getElem?_toArray, List.getElem?_cons_zero, List.getElem?_cons_succ] at y0 y1 y2 y3 y4
                  exact bodyPost_ret (v := .tuple #[.agg #[.int .i64 op, .int .i64 s.d, .int .i64 s.n, .int .i64 s.m, .int .i64 s.i], .int .i64 0]) (by simp [results, Tryd.results9, go_sem, y0, y1, y2, y3, y4]) rfl (HY.out op s W6 HOK.out HEQ.out hlo)
                · have e1 : (showL op s == l) = false := by simpa using heq
                  have HNN := Lib.hid (HNX.out (fun hh => heq (HSG.out ▸ hh.2)))
                  have HKS := Lib.hid HJ.out.2.1
                  clear heq hcb
                  generalize showL op s = OUT at e1 ⊢
                  go_wp2_with fail
                  go_roundg (aHi op - (k + 1))
                  case measure => omega
                  case rel => exact ⟨k + 1, s, by omega, by omega, by go_num, Lib.hid ⟨HI5.out, fun j hj => by rw [HSG.out]; exact setk_gs op a0 a1 a2 k j hj hlk, HB5.out, HNN.out⟩⟩
              · have hv : shwV op s.d s.n s.m s.i = .tuple #[.string ⟨#[]⟩, .bool false] := by unfold shwV; rw [if_neg hcb]
                rw [hv]
                have HNN := Lib.hid (HNX.out (fun hh => hcb (HSG.out ▸ hh.1)))
                clear hv hcb
                go_wp2_with fail
                go_roundg (aHi op - (k + 1))
                case measure => omega
                case rel => exact ⟨k + 1, s, by omega, by omega, by go_num, Lib.hid ⟨HI5.out, fun j hj => by rw [HSG.out]; exact setk_gs op a0 a1 a2 k j hj hlk, HB5.out, HNN.out⟩⟩
            · have q11 : ((op : Int) == 11) = false := by simp; omega
              have q18 : ((op : Int) == 18) = false := by simp; omega
              have hI4 : InsAt wr b op s := by rw [hs]; unfold setk; rw [if_neg hc, if_neg hc2]; exact HJ.out.1
              have hB4 : Below s1 w1 wr := HJ.out.2.2.1
              have HI4 := Lib.hid hI4; have HB4 := Lib.hid hB4
              have c0 := HJ.out.1.cell 0; have c1 := HJ.out.1.cell 1; have c2 := HJ.out.1.cell 2; have c3 := HJ.out.1.cell 3; have c4 := HJ.out.1.cell 4
              simp only [List.getElem?_toArray, List.getElem?_cons_zero, List.getElem?_cons_succ] at c0 c1 c2 c3 c4
              have f0 := HJ.out.1.frozen 0; have f1 := HJ.out.1.frozen 1; have f2 := HJ.out.1.frozen 2; have f3 := HJ.out.1.frozen 3; have f4 := HJ.out.1.frozen 4
              clear hs hI4 hB4 hc hc2
              go_upto_region 34 with fail
              clear c0 c1 c2 c3 c4 f0 f1 f2 f3 f4
              have c0 := HI4.out.cell 0; have c1 := HI4.out.cell 1; have c2 := HI4.out.cell 2; have c3 := HI4.out.cell 3; have c4 := HI4.out.cell 4
              simp only [List.getElem?_toArray, List.getElem?_cons_zero, List.getElem?_cons_succ] at c0 c1 c2 c3 c4
              go_wp2_with fail
              refine (TxR.showR op s.d s.n s.m s.i wr).mono ?_
              rintro e W4 ⟨rfl, hb4⟩
              have HI5 := Lib.hid (Blk.below HI4.out hb4 (Blk.lt HI4.out))
              have HB5 := Lib.hid (HB4.out.trans (hb4.mono (Nat.le_of_lt (Nat.lt_of_le_of_lt HS3.out (Blk.lt HI4.out)))))
              clear c0 c1 c2 c3 c4 hb4 HI4 HB4
              by_cases hcb : ThRef.canB op s.d s.n s.m s.i = true
              · have hv : shwV op s.d s.n s.m s.i = .tuple #[.string ⟨(showL op s).toArray⟩, .bool true] := by unfold shwV; rw [if_pos hcb]; rfl
                rw [hv]
                clear hv
                by_cases heq : showL op s = l
                · have e1 : (showL op s == l) = true := by rw [heq]; simp
                  have HOK := Lib.hid ((okk_of op hlt _ _ _ _).1 hcb); have HEQ := Lib.hid heq
                  have HR5 := Lib.hid (Blk.below HR1.out HB5.out HS1.out)
                  have HL5 := Lib.hid (HB1.out.trans (HB5.out.mono (Nat.le_of_lt HS1.out)))
                  have c0 := HI5.out.cell 0; have c1 := HI5.out.cell 1; have c2 := HI5.out.cell 2; have c3 := HI5.out.cell 3; have c4 := HI5.out.cell 4
                  simp only [List.getElem?_toArray, List.getElem?_cons_zero, List.getElem?_cons_succ] at c0 c1 c2 c3 c4
                  clear heq hcb
                  generalize showL op s = OUT at e1 ⊢
                  have HE := Lib.hid (blk5 HR5.out (.int .i64 op) (.int .i64 s.d) (.int .i64 s.n) (.int .i64 s.m) (.int .i64 s.i))
                  have r0 := HR5.out.cell 0; have r1 := HR5.out.cell 1; have r2 := HR5.out.cell 2; have r3 := HR5.out.cell 3; have r4 := HR5.out.cell 4
                  simp only [List.getElem?_toArray, List.getElem?_cons_zero, List.getElem?_cons_succ] at r0 r1 r2 r3 r4
                  have g0 := HR5.out.frozen 0; have g1 := HR5.out.frozen 1; have g2 := HR5.out.frozen 2; have g3 := HR5.out.frozen 3; have g4 := HR5.out.frozen 4
                  go_wp2_with fail
                  have hlo : Below w.heap.size w (((((W4.setCell ⟨w.heap.size, 0, none⟩ (.int .i64 op)).setCell ⟨w.heap.size, 1, none⟩ (.int .i64 s.d)).setCell ⟨w.heap.size, 2, none⟩ (.int .i64 s.n)).setCell ⟨w.heap.size, 3, none⟩ (.int .i64 s.m)).setCell ⟨w.heap.size, 4, none⟩ (.int .i64 s.i)) := ((((((HL5.out).setCell (p := ⟨w.heap.size, 0, none⟩) (Nat.le_refl _) _).setCell (p := ⟨w.heap.size, 1, none⟩) (Nat.le_refl _) _).setCell (p := ⟨w.heap.size, 2, none⟩) (Nat.le_refl _) _).setCell (p := ⟨w.heap.size, 3, none⟩) (Nat.le_refl _) _).setCell (p := ⟨w.heap.size, 4, none⟩) (Nat.le_refl _) _)
                  have hE := HE.out
                  clear r0 r1 r2 r3 r4 g0 g1 g2 g3 g4 HE
                  generalize (((((W4.setCell ⟨w.heap.size, 0, none⟩ (.int .i64 op)).setCell ⟨w.heap.size, 1, none⟩ (.int .i64 s.d)).setCell ⟨w.heap.size, 2, none⟩ (.int .i64 s.n)).setCell ⟨w.heap.size, 3, none⟩ (.int .i64 s.m)).setCell ⟨w.heap.size, 4, none⟩ (.int .i64 s.i)) = W6 at *
                  have y0 := hE.cell 0; have y1 := hE.cell 1; have y2 := hE.cell 2; have y3 := hE.cell 3; have y4 := hE.cell 4
                  simp only [List.getElem?_toArray, List.getElem?_cons_zero, List.getElem?_cons_succ] at y0 y1 y2 y3 y4
                  exact bodyPost_ret (v := .tuple #[.agg #[.int .i64 op, .int .i64 s.d, .int .i64 s.n, .int .i64 s.m, .int .i64 s.i], .int .i64 0]) (by simp [results, Tryd.results9, go_sem, y0, y1, y2, y3, y4]) rfl (HY.out op s W6 HOK.out HEQ.out hlo)
                · have e1 : (showL op s == l) = false := by simpa using heq
                  have HNN := Lib.hid (HNX.out (fun hh => heq (HSG.out ▸ hh.2)))
                  have HKS := Lib.hid HJ.out.2.1
                  clear heq hcb
                  generalize showL op s = OUT at e1 ⊢
                  go_wp2_with fail
                  go_roundg (aHi op - (k + 1))
                  case measure => omega
                  case rel => exact ⟨k + 1, s, by omega, by omega, by go_num, Lib.hid ⟨HI5.out, fun j hj => by rw [HSG.out]; exact setk_gs op a0 a1 a2 k j hj hlk, HB5.out, HNN.out⟩⟩
              · have hv : shwV op s.d s.n s.m s.i = .tuple #[.string ⟨#[]⟩, .bool false] := by unfold shwV; rw [if_neg hcb]
                rw [hv]
                have HNN := Lib.hid (HNX.out (fun hh => hcb (HSG.out ▸ hh.1)))
                clear hv hcb
                go_wp2_with fail
                go_roundg (aHi op - (k + 1))
                case measure => omega
                case rel => exact ⟨k + 1, s, by omega, by omega, by go_num, Lib.hid ⟨HI5.out, fun j hj => by rw [HSG.out]; exact setk_gs op a0 a1 a2 k j hj hlk, HB5.out, HNN.out⟩⟩
          · obtain rfl : k = aHi op := by omega
            have hki : ¬ ((aHi op : Nat) : Int) < (aHi op : Nat) := by omega
            have HTU := Lib.hid (Tried.up HJ.out.2.2.2); have HB6 := Lib.hid HJ.out.2.2.1
            go_wp2_with fail
            go_roundg (21 - (op + 1))
            case measure => omega
            case rel => exact ⟨op + 1, by omega, by omega, by go_num, Lib.hid ⟨HB6.out, HTU.out⟩⟩
    · obtain rfl : op = 21 := by omega
      have HA := Lib.hid (HT0.out HH.out.2)
      have HR5 := Lib.hid (Blk.below HR1.out HH.out.1 HS1.out)
      have HL5 := Lib.hid (HB1.out.trans (HH.out.1.mono (Nat.le_of_lt HS1.out)))
      have HE := Lib.hid (blk5 HR5.out (.int .i64 0) (.int .i64 0) (.int .i64 0) (.int .i64 0) (.int .i64 0))
      have r0 := HR5.out.cell 0; have r1 := HR5.out.cell 1; have r2 := HR5.out.cell 2; have r3 := HR5.out.cell 3; have r4 := HR5.out.cell 4
      simp only [List.getElem?_toArray, List.getElem?_cons_zero, List.getElem?_cons_succ] at r0 r1 r2 r3 r4
      have g0 := HR5.out.frozen 0; have g1 := HR5.out.frozen 1; have g2 := HR5.out.frozen 2; have g3 := HR5.out.frozen 3; have g4 := HR5.out.frozen 4
      go_wp2_with fail
      have hlo : Below w.heap.size w (((((wr.setCell ⟨w.heap.size, 0, none⟩ (.int .i64 0)).setCell ⟨w.heap.size, 1, none⟩ (.int .i64 0)).setCell ⟨w.heap.size, 2, none⟩ (.int .i64 0)).setCell ⟨w.heap.size, 3, none⟩ (.int .i64 0)).setCell ⟨w.heap.size, 4, none⟩ (.int .i64 0)) := ((((((HL5.out).setCell (p := ⟨w.heap.size, 0, none⟩) (Nat.le_refl _) _).setCell (p := ⟨w.heap.size, 1, none⟩) (Nat.le_refl _) _).setCell (p := ⟨w.heap.size, 2, none⟩) (Nat.le_refl _) _).setCell (p := ⟨w.heap.size, 3, none⟩) (Nat.le_refl _) _).setCell (p := ⟨w.heap.size, 4, none⟩) (Nat.le_refl _) _)
      have hE := HE.out
      clear r0 r1 r2 r3 r4 g0 g1 g2 g3 g4 HE
      generalize (((((wr.setCell ⟨w.heap.size, 0, none⟩ (.int .i64 0)).setCell ⟨w.heap.size, 1, none⟩ (.int .i64 0)).setCell ⟨w.heap.size, 2, none⟩ (.int .i64 0)).setCell ⟨w.heap.size, 3, none⟩ (.int .i64 0)).setCell ⟨w.heap.size, 4, none⟩ (.int .i64 0)) = W6 at *
      have y0 := hE.cell 0; have y1 := hE.cell 1; have y2 := hE.cell 2; have y3 := hE.cell 3; have y4 := hE.cell 4
      simp only [List.getElem?_toArray, List.getElem?_cons_zero, List.getElem?_cons_succ] at y0 y1 y2 y3 y4
      exact bodyPost_ret (v := .tuple #[.agg #[.int .i64 0, .int .i64 0, .int .i64 0, .int .i64 0, .int .i64 0], .int .i64 4]) (by simp [results, Tryd.results9, go_sem, y0, y1, y2, y3, y4]) rfl (HN.out W6 HA.out hlo)
end Go.Proofs.YthioplijcleioaaDoor.Tx
/- DERIVED. The walk of TextParses. By an AI agent. -/
namespace Go.Proofs.YthioplijcleioaaDoor.textParses
open Go.ChangeShapes Go.WideShapes Go.ChangeAt Go.RowKit Go.Lib Go.Sort Args Tx
set_option linter.unusedVariables false
/-- What two readers of one text leave is the same. -/
theorem ps_same {l : Txt} {w1 w1' w2 w2' : World} {e1 e2 : Ending} (h1 : PsEnd l w1 e1 w1') (h2 : PsEnd l w2 e2 w2') :
    ∃ (o d n m i r : Int), e1 = .returned (.tuple #[.agg #[.int .i64 o, .int .i64 d, .int .i64 n, .int .i64 m, .int .i64 i], .int .i64 r]) ∧ e2 = e1 := by
  rcases h1.1 with ⟨k, s, ok, hs, rfl⟩ | ⟨hno, rfl⟩
  · rcases h2.1 with ⟨k', s', ok', hs', rfl⟩ | ⟨hno, rfl⟩
    · obtain ⟨rfl, rfl⟩ := show_one ok (ok' : Okk k' s') (hs.trans hs'.symm)
      exact ⟨_, _, _, _, _, _, rfl, rfl⟩
    · exact absurd hs (hno k s ok)
  · rcases h2.1 with ⟨k', s', ok', hs', rfl⟩ | ⟨hno2, rfl⟩
    · exact absurd hs' (hno k' s' ok')
    · exact ⟨_, _, _, _, _, _, rfl, rfl⟩
set_option maxRecDepth 100000 in
set_option maxHeartbeats 4000000 in
theorem walk (W : World) (s : ByteArray) (hy : s.size ≤ 140737488351232) (hL : Lw W) :
    Calls Tryd.prog 4 #[.string s] W fun e w' => e = .returned (.bool true) ∧ Below W.heap.size W w' := by
  have HL := Lib.hid hL
  clear hL
  by_cases hlen : s.size ≤ 60
  · obtain ⟨l, rfl⟩ : ∃ l : Txt, s = ⟨l.toArray⟩ := ⟨s.data.toList, by simp⟩
    have hll : l.length ≤ 60 := by simpa [ByteArray.size] using hlen
    have hp := fun w h => parseC l (by omega) (ix_any l (by omega)) w h
    have hr := fun w => parseR l (by omega) w
    have HP := Lib.hid hp; have HR := Lib.hid hr
    have hle : ¬ (60 : Int) < ((⟨l.toArray⟩ : ByteArray).size : Nat) := by omega
    clear hp hr hll
    go_enter Tryd.func4, Tryd.ntmps4
    go_wp2_with fail
    refine (HP.out _ HL.out).mono ?_
    intro e w1 h1
    obtain ⟨o, d, n, m, i, r, rfl, -⟩ := ps_same h1 h1
    have H1 := Lib.hid h1
    clear h1
    go_wp2_with fail
    refine (HR.out _).mono ?_
    intro e w2 h2
    obtain ⟨-, -, -, -, -, -, -, rfl⟩ := ps_same H1.out h2
    obtain ⟨⟨t0, t1, t2, t3, t4⟩, hbw, hz⟩ := cells5 h2.2
    have HB := Lib.hid (H1.out.2.trans (hbw.mono H1.out.2.size))
    have HB2 := Lib.hid (HB.out.alloc HB.out.size (.cells #[.int .i64 o, .int .i64 d, .int .i64 n, .int .i64 m, .int .i64 i] 23))
    clear h2 H1 hbw
    go_wp2_with fail
    refine (Tx.lives _ (HL.out.below HB2.out)).mono ?_
    rintro e w5 ⟨rfl, hb5⟩
    go_wp2_with fail
    go_ret
    exact ⟨rfl, HB2.out.trans (hb5.mono HB2.out.size)⟩
  · have hle : (60 : Int) < (s.size : Nat) := by omega
    go_enter Tryd.func4, Tryd.ntmps4
    go_wp2_with fail
    refine (Tx.lives _ HL.out).mono ?_
    rintro e w5 ⟨rfl, hb5⟩
    go_wp2_with fail
    go_ret
    exact ⟨rfl, hb5⟩
end Go.Proofs.YthioplijcleioaaDoor.textParses
