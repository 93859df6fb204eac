/- DERIVED. TpCan, TpCan2 in one text. By an AI agent. -/
import Derived.Test.YtnngnfajmncjpaaGreatDoorZ05
import Derived.Test.YtnngnfajmncjpaaGreatDoorZ04
import Derived.Deep.LoopGhost
/- DERIVED. The contract of the program's Can. By an AI agent. -/
namespace Go.Proofs.YtnngnfajmncjpaaGreatDoor.Tp
open Go.ChangeShapes Go.WideShapes Go.ChangeAt Go.RowKit Go.Sort ThRef
set_option linter.unusedVariables false
/-- An instruction's four numbers beside its Op. -/
structure Nums where
  d : Int
  n : Int
  m : Int
  i : Int
def Nums.get (s : Nums) (k : Nat) : Int := if k = 0 then s.d else if k = 1 then s.n else if k = 2 then s.m else s.i
def Nums.set (s : Nums) (k : Nat) (x : Int) : Nums := if k = 0 then { s with d := x } else if k = 1 then { s with n := x } else if k = 2 then { s with m := x } else { s with i := x }
/-- What Can does with the fields that are left. -/
def canT : List Nat → Nums → Bool
  | [], s => decide (s.d = 0) && decide (s.n = 0) && decide (s.m = 0) && decide (s.i = 0)
  | k :: l, s => decide ((fldN k).least ≤ s.get (fldN k).of) && decide (s.get (fldN k).of ≤ (fldN k).most) && canT l (s.set (fldN k).of 0)
abbrev insN (op : Nat) (s : Nums) : Value := ins op s.d s.n s.m s.i
/-- Block b holds an instruction. -/
def Holds (b k : Nat) (s : Nums) (w : World) : Prop := w.heap[b]? = some (.cells #[.int .i64 k, .int .i64 s.d, .int .i64 s.n, .int .i64 s.m, .int .i64 s.i] 50 (0, 0))
theorem Holds.lt {b k : Nat} {s : Nums} {w : World} (h : Holds b k s w) : b < w.heap.size := (Array.getElem?_eq_some_iff.1 h).1
theorem Holds.below {b k : Nat} {s : Nums} {w w' : World} (h : Holds b k s w) (hb : Below w.heap.size w w') : Holds b k s w' := by
  unfold Holds; rw [hb.block b h.lt]; exact h
theorem Holds.cell {b k : Nat} {s : Nums} {w : World} (h : Holds b k s w) (i : Nat) : w.cell? ⟨b, i, none⟩ = #[Value.int .i64 k, .int .i64 s.d, .int .i64 s.n, .int .i64 s.m, .int .i64 s.i][i]? := by
  unfold Holds at h
  simp [World.cell?, h]
theorem Holds.num {b k : Nat} {s : Nums} {w : World} (h : Holds b k s w) (o : Nat) : w.cell? ⟨b, 1 + min o 3, none⟩ = some (.int .i64 (s.get o)) := by
  rw [h.cell]
  unfold Nums.get
  by_cases h0 : o = 0
  · subst h0; rfl
  by_cases h1 : o = 1
  · subst h1; rfl
  by_cases h2 : o = 2
  · subst h2; rfl
  rw [show 1 + min o 3 = 4 by omega]
  simp [h0, h1, h2]
theorem Holds.free {b k : Nat} {s : Nums} {w : World} (h : Holds b k s w) (i : Nat) : w.frozen? ⟨b, i, none⟩ = false := by
  unfold Holds at h
  simp [World.frozen?, h]
theorem Holds.set {b k : Nat} {s : Nums} {w : World} (h : Holds b k s w) (o : Nat) (x : Int) : Holds b k (s.set o x) (w.setCell ⟨b, 1 + min o 3, none⟩ (.int .i64 x)) := by
  have hm : ∀ i v, (w.setCell ⟨b, i, none⟩ v).heap[b]? = some (.cells (#[Value.int .i64 k, .int .i64 s.d, .int .i64 s.n, .int .i64 s.m, .int .i64 s.i].setIfInBounds i v) 50 (0, 0)) := fun i v => by
    have hl := h.lt
    have h' : w.heap[b] = _ := Array.getElem_eq_iff.2 h
    unfold World.setCell
    rw [Array.getElem?_eq_getElem (by simpa using hl), Array.getElem_modify, if_pos rfl, h']
    rfl
  unfold Holds
  rw [hm]
  unfold Nums.set
  by_cases h0 : o = 0
  · subst h0; rfl
  by_cases h1 : o = 1
  · subst h1; rfl
  by_cases h2 : o = 2
  · subst h2; rfl
  rw [show 1 + min o 3 = 4 by omega]
  simp [h0, h1, h2]
theorem has_lt (k : Nat) (hk : k < 21) (j x : Nat) (h : (shpN k).has[j]? = some x) : x < 13 := by
  have : ∀ i : Fin 21, (shpN i.val).has.all (fun x => x < 13) = true := by decide +kernel
  have h2 := List.all_eq_true.1 (this ⟨k, hk⟩) x (List.mem_of_getElem? h)
  simpa using h2
theorem holds_new (w : World) (k : Nat) (s : Nums) : Holds w.heap.size k s (w.alloc (.cells #[.int .i64 k, .int .i64 s.d, .int .i64 s.n, .int .i64 s.m, .int .i64 s.i] 50)) := by
  unfold Holds
  exact heap_alloc_new _ _
set_option maxRecDepth 100000 in
set_option maxHeartbeats 4000000 in
theorem can_body (k : Nat) (hk : k < 21) (s0 : Nums) (w : World) (hT : Tb w) : Calls Tryz.prog 27 #[insN k s0] w fun e w' => e = .returned (.bool (canT (shpN k).has s0)) ∧ Below w.heap.size w w' := by
  have s2 := hT.s2 k hk
  obtain ⟨a, cap, hs, hrow⟩ := s2
  have gs := hT.gs; have gf := hT.gf
  have hlt := has_lt k hk
  have hlen : (shpN k).has.length ≤ 3 := by
    have : ∀ i : Fin 21, (shpN i.val).has.length ≤ 3 := by decide +kernel
    exact this ⟨k, hk⟩
  generalize (shpN k).has = L at *
  have HT := Lib.hid hT; have HR := Lib.hid hrow; have HLT := Lib.hid hlt
  clear hT hrow hlt
  go_enter Tryz.func27, Tryz.ntmps27
  go_wp2
  go_loopw [21] (fun vi wr => ∃ (j : Nat) (s : Nums), j ≤ L.length ∧ vi = .int .i64 j ∧ Hid (Holds w.heap.size k s wr ∧ Below w.heap.size w wr ∧ canT (L.drop j) s = canT L s0)) (fun vi _ => L.length - (intOf vi).toNat)
  case atStart => exact ⟨0, s0, by omega, rfl, Lib.hid ⟨holds_new w k s0, (Below.refl _ _).alloc (Nat.le_refl _) _, rfl⟩⟩
  case round =>
    obtain ⟨j, s, hj, rfl, HH⟩ := hrel
    by_cases hlt : j < L.length
    · have hx : L[j]? = some (L[j]'hlt) := List.getElem?_eq_getElem hlt
      have hx13 := HLT.out j _ hx
      have hcell := HR.out j _ hx
      have hblk := World.block_lt_of_cell? w _ hcell
      have hcell2 : wr.cell? (a.add j) = _ := (HH.out.2.1.cell hblk).trans hcell
      have hblk2 := World.block_lt_of_cell? wr _ hcell2
      have hdrop := List.drop_eq_getElem_cons hlt
      generalize L[j]'hlt = x at hx hx13 hcell hcell2 hdrop
      have hTr := HT.out.below HH.out.2.1
      have f0 := hTr.f0 x hx13; have f1 := hTr.f1 x hx13; have f2 := hTr.f2 x hx13; have f3 := hTr.f3 x hx13; have f4 := hTr.f4 x hx13
      have gf2 := hTr.gf
      have HD := Lib.hid hdrop
      clear hcell hblk hx hdrop hTr
      go_wp2_with fail
      refine (number (fldN x) w.heap.size _).mono ?_
      rintro e w1 ⟨rfl, hb1⟩
      have hbw : Below wr.heap.size wr w1 := ((Below.refl _ _).alloc (Nat.le_refl _) _).trans (hb1.mono (by simp))
      have hH1 := HH.out.1.below hbw
      have hv := hH1.num (fldN x).of
      have hfr := hH1.free (1 + min (fldN x).of 3)
      have hset : ∀ nq, Holds w.heap.size k (s.set (fldN x).of 0) ((w1.drewN nq).setCell ⟨w.heap.size, 1 + min (fldN x).of 3, none⟩ (.int .i64 0)) := fun nq => Holds.set (w := w1.drewN nq) hH1 (fldN x).of 0
      have hz1 := hb1.size
      simp at hz1
      have hcc : ∀ i, w1.cell? ⟨wr.heap.size, i, none⟩ = _ := fun i => (hb1.cell (p := ⟨wr.heap.size, i, none⟩) (by simp)).trans (World.cell?_alloc_at _ _ _ _ rfl)
      have g3 : w1.cell? ⟨wr.heap.size, 3, none⟩ = some (.int .i64 (fldN x).least) := hcc 3
      have g4 : w1.cell? ⟨wr.heap.size, 4, none⟩ = some (.int .i64 (fldN x).most) := hcc 4
      have hct : canT (L.drop j) s = (decide ((fldN x).least ≤ s.get (fldN x).of) && decide (s.get (fldN x).of ≤ (fldN x).most) && canT (L.drop (j + 1)) (s.set (fldN x).of 0)) := by rw [HD.out, canT]
      rw [HH.out.2.2] at hct
      have HB := Lib.hid (HH.out.2.1.trans (hbw.mono HH.out.2.1.size))
      have HS := Lib.hid hset
      generalize hnx : s.set (fldN x).of 0 = s' at hset hct HS
      generalize s.get (fldN x).of = v at hv hct
      generalize 1 + min (fldN x).of 3 = o at *
      have HCT := Lib.hid hct
      clear f0 f1 f2 f3 f4 hcc hb1 hbw hH1 hset hnx hct hcell2 hblk2 gf2 hs gs gf
      by_cases c1 : v < (fldN x).least
      · have d1 : decide (v < (fldN x).least) = true := by simpa using c1
        have hfin : canT L s0 = false := by rw [HCT.out, decide_eq_false (by omega)]; rfl
        have HF := Lib.hid hfin
        clear c1 hfin
        go_wp2_with fail
        go_quiet (fail)
        go_wp2_with fail
        go_ret
        exact ⟨by rw [HF.out]; rfl, below_drewN HB.out _⟩
      · have d1 : decide (v < (fldN x).least) = false := by simpa using c1
        by_cases c2 : (fldN x).most < v
        · have d2 : decide ((fldN x).most < v) = true := by simpa using c2
          have hfin : canT L s0 = false := by rw [HCT.out, decide_eq_false (show ¬ v ≤ (fldN x).most by omega)]; simp
          have HF := Lib.hid hfin
          clear c1 c2 hfin
          go_wp2_with fail
          go_quiet (fail)
          go_wp2_with fail
          go_ret
          exact ⟨by rw [HF.out]; rfl, below_drewN HB.out _⟩
        · have d2 : decide ((fldN x).most < v) = false := by simpa using c2
          have hgo : canT (L.drop (j + 1)) s' = canT L s0 := by rw [HCT.out, decide_eq_true (show v ≤ (fldN x).most by omega), decide_eq_true (show (fldN x).least ≤ v by omega)]; rfl
          have HG := Lib.hid hgo
          clear c1 c2 hgo
          go_wp2_with fail
          go_quiet (fail)
          go_wp2_with fail
          go_roundw
          case rel =>
            refine ⟨j + 1, s', by omega, by go_num, Lib.hid ⟨?_, ?_, HG.out⟩⟩
            · exact HS.out nq
            · exact (below_drewN HB.out nq).setCell (by simp) _
          case measure => simp [intOf]; omega
    · have hjl : L.drop j = [] := List.drop_eq_nil_of_le (by omega)
      have hfin : canT L s0 = (decide (s.d = 0) && decide (s.n = 0) && decide (s.m = 0) && decide (s.i = 0)) := by rw [← HH.out.2.2, hjl, canT]
      have q0 := HH.out.1.cell 0
      have q1 := HH.out.1.cell 1
      have q2 := HH.out.1.cell 2
      have q3 := HH.out.1.cell 3
      have q4 := HH.out.1.cell 4
      have HF := Lib.hid hfin
      clear hfin hjl
      go_wp2_with fail
      all_goals
        go_ret
        refine ⟨?_, HH.out.2.1⟩
        rw [HF.out]
        clear HF HH HLT HR HT hs
        simp [*]
end Go.Proofs.YtnngnfajmncjpaaGreatDoor.Tp
/- DERIVED. The program's Can answers as the reference's, whatever the numbers. By an AI agent. -/
namespace Go.Proofs.YtnngnfajmncjpaaGreatDoor.Tp
open Go.ChangeShapes Go.WideShapes Go.ChangeAt Go.RowKit Go.Sort ThRef
set_option linter.unusedVariables false
set_option maxHeartbeats 4000000 in
theorem canT_canB (k : Nat) (hk : k < 21) (d n m imm : Int) : canT (shpN k).has ⟨d, n, m, imm⟩ = canB k d n m imm := by
  have hr : k = 0 ∨ k = 1 ∨ k = 2 ∨ k = 3 ∨ k = 4 ∨ k = 5 ∨ k = 6 ∨ k = 7 ∨ k = 8 ∨ k = 9 ∨ k = 10 ∨ k = 11 ∨ k = 12 ∨ k = 13 ∨ k = 14 ∨ k = 15 ∨ k = 16 ∨ k = 17 ∨ k = 18 ∨ k = 19 ∨ k = 20 := by omega
  clear hk
  rcases hr with rfl | rfl | rfl | rfl | rfl | rfl | rfl | rfl | rfl | rfl | rfl | rfl | rfl | rfl | rfl | rfl | rfl | rfl | rfl | rfl | rfl
  all_goals
    rw [Bool.eq_iff_iff]
    simp [canT, canB, dB, restB, shpN, shps, fldN, flds, Nums.get, Nums.set, lowN, lows, highN, highs, hasB, shapeN, shapes]
    try omega
set_option maxHeartbeats 4000000 in
theorem can (op d n m imm : Int) (w : World) (hT : Tb w) : Calls Tryz.prog 27 #[ins op d n m imm] w fun e w' => e = .returned (.bool (canB op d n m imm)) ∧ Below w.heap.size w w' := by
  by_cases h0 : op < 0
  · have hfin : canB op d n m imm = false := by unfold canB; rw [decide_eq_false (by omega)]; rfl
    have HF := Lib.hid hfin
    clear hfin hT
    go_enter Tryz.func27, Tryz.ntmps27
    go_wp2
    go_ret
    exact ⟨by rw [HF.out]; rfl, (Below.refl _ _).alloc (Nat.le_refl _) _⟩
  by_cases h20 : 20 < op
  · have hfin : canB op d n m imm = false := by unfold canB; rw [decide_eq_false (show ¬ op ≤ 20 by omega)]; simp
    have HF := Lib.hid hfin
    clear hfin hT
    go_enter Tryz.func27, Tryz.ntmps27
    go_wp2
    go_ret
    exact ⟨by rw [HF.out]; rfl, (Below.refl _ _).alloc (Nat.le_refl _) _⟩
  obtain ⟨k, rfl⟩ := Int.eq_ofNat_of_zero_le (by omega : 0 ≤ op)
  have hk : k < 21 := by omega
  rw [← canT_canB k hk]
  exact can_body k hk ⟨d, n, m, imm⟩ w hT
end Go.Proofs.YtnngnfajmncjpaaGreatDoor.Tp
