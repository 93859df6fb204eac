/- DERIVED. The walk of LexOrder. By an AI agent. -/
import Derived.Test.YtiagagljghoacaaDoorLxLv
namespace Go.Proofs.YtiagagljghoacaaDoor.Lx
open Go Go.ChangeShapes Go.WideShapes Go.ChangeAt Go.RowKit Args
set_option linter.unusedVariables false
set_option linter.unusedSimpArgs false
theorem slice_md (S : ByteArray) (i m : Nat) (X : Bs) (hX : (S.data.toList.drop i).take m = X) (h : i + m ≤ S.size) (W : World) : (Instr.slice 9 (.string S) (some (.int .i64 (i : Int))) (some (.int .i64 ((i : Int) + (m : Int)))) none).run Tryd.prog W = .ok (.string ⟨X.toArray⟩) W := by
  subst hX
  have e : (i : Int) + (m : Int) = ((i + m : Nat) : Int) := by push_cast; rfl
  rw [e, run_slice_string W 9 S .i64 .i64 i (i + m : Nat) Tryd.underlying9 (by omega) (by omega) (by omega), Int.toNat_natCast, Int.toNat_natCast]
  congr 2
  apply ByteArray.ext
  apply Array.toList_inj.1
  rw [ByteArray.data_extract]
  simp
theorem go_few : ∀ (f : Nat) (bs : Bs) (i n : Nat), n ≤ 4000 → (goL f bs i n).l.length + n ≤ 4000
  | 0, _, _, n, h => by show 0 + n ≤ 4000; omega
  | f + 1, [], i, n, h => by
    show (if n = 4000 then (⟨[], i, 150⟩ : Wd) else ⟨[⟨0, [], i⟩], 0, 0⟩).l.length + n ≤ 4000
    split
    · show 0 + n ≤ 4000; omega
    · show 1 + n ≤ 4000; omega
  | f + 1, c :: r, i, n, h => by
    rcases ht : tokC c r with _ | ⟨k, m⟩
    · rw [goL_none ht]; show 0 + n ≤ 4000; omega
    · rw [goL_some ht]
      split
      · show 0 + n ≤ 4000; omega
      · have := go_few f (restL ((c :: r).drop m)) (i + m + skipL false ((c :: r).drop m)) (n + 1) (by omega)
        unfold Wd.cons
        split
        · show (goL f _ _ _).l.length + 1 + n ≤ 4000; omega
        · omega
theorem words_few (s : Bs) : (wordsL s).l.length ≤ 4000 := by
  unfold wordsL
  split
  · exact Nat.zero_le _
  · have := go_few (s.length + 1) (s.drop (skipL false s)) (skipL false s) 0 (Nat.zero_le _)
    omega
set_option maxRecDepth 100000 in
set_option maxHeartbeats 8000000 in
theorem lexOrder.walk (W : World) (s : ByteArray) (hs : s.size ≤ 140737488351232) : Calls Tryd.prog 6 #[.string s] W fun e w' => e = .returned (.bool true) ∧ Below W.heap.size W w' := by
  have hwd := pwords s W
  unfold PWordsP at hwd
  have H5 := Lib.hid lives
  by_cases her : (wordsL s.data.toList).er = 0
  · have hi := words_order s.data.toList her
    have h20 : s.size ≤ 20000 := by
      rcases Nat.lt_or_ge 20000 s.data.toList.length with h | h
      · rw [words_long _ h] at her; exact absurd her (by show ¬ (150 : Nat) = 0; decide)
      · rw [size_len] at h; exact h
    generalize hD : wordsL s.data.toList = D at *
    obtain ⟨L, at_, er⟩ := D
    dsimp only at *
    subst her
    have hwd2 : Calls Tryd.prog 7 #[.string s] W fun e w' => ∃ A c, e = .returned (.tuple #[.slice A L.length c, .int .i64 (at_ : Int), .int .i64 0]) ∧ Lies w' A (L.flatMap tkC) ∧ Below W.heap.size W w' := hwd
    have HW := Lib.hid hwd2; have HI := Lib.hid hi
    have hne : L.length ≠ 0 := fun h => hi.1 (List.eq_nil_of_length_eq_zero h)
    have n1 : decide ((0 : Int) < (L.length : Int)) = true := by simp; omega
    have hsl := size_len s
    have hl4 : L.length ≤ 4000 := by have := words_few s.data.toList; rw [hD] at this; exact this
    clear hwd hwd2 hi
    go_enter Tryd.func6, Tryd.ntmps6
    go_wp2_with fail
    refine HW.out.mono ?_
    rintro e w1 ⟨A, c, rfl, hL, hb⟩
    have HL := Lib.hid hL; have HB := Lib.hid hb
    clear hL hb
    go_wp2_with fail
    go_loopw [6] (fun vi wr => ∃ k : Nat, k ≤ L.length ∧ vi = .int .i64 k ∧ Hid (Below w1.heap.size w1 wr)) (fun vi _ => L.length - (intOf vi).toNat)
    case atStart => exact ⟨0, by omega, rfl, Lib.hid (Below.refl _ _)⟩
    case round =>
      obtain ⟨k, hk, rfl, HH⟩ := hrel
      by_cases hlt : k < L.length
      · obtain ⟨t, ht⟩ : ∃ t, L[k]? = some t := ⟨_, List.getElem?_eq_getElem hlt⟩
        obtain ⟨o1, o2, o3, o4⟩ := HI.out.2 k t ht
        obtain ⟨f1, f2, f3⟩ := flat3 L k t ht
        obtain ⟨tk, ts, ta⟩ := t
        dsimp only at o1 o2 o3 o4 f1 f2 f3
        obtain ⟨b, o, rfl, hblt, hc1⟩ := (HL.out.below HH.out).at_ f1
        have e1 := hc1 _ _ f1
        have e2 : wr.cell? ⟨b, o + k * 3 + 1, none⟩ = some (.string ⟨ts.toArray⟩) := by rw [Nat.add_assoc]; exact hc1 _ _ f2
        have e3 : wr.cell? ⟨b, o + k * 3 + 2, none⟩ = some (.int .i64 (ta : Int)) := by rw [Nat.add_assoc]; exact hc1 _ _ f3
        have j0 : (ta : Int) ≤ (s.size : Int) := by omega
        have j1 : decide ((ta : Int) < 0) = false := by simp
        have j2 : decide ((s.size : Int) < (ta : Int)) = false := by simp; omega
        have j2' : decide (s.size < ta) = false := by simp; omega
        have j3 : decide ((s.size : Int) - (ta : Int) < (ts.length : Int)) = false := by simp; omega
        have hsm := slice_md s ta ts.length ts o2 (by omega)
        obtain ⟨q, hq⟩ : ∃ q : Bool, decide (tk = 0) = q := ⟨_, rfl⟩
        have j4 : ((tk : Int) == 0) = q := by rw [← hq]; by_cases h : tk = 0 <;> simp [h]
        have j5 : ((k : Int) == (L.length : Int) - 1) = q := by
          rw [← hq]
          by_cases h : tk = 0
          · have := o3.1 h; simp [h]; omega
          · have h' : ¬ k + 1 = L.length := fun e => h (o3.2 e)
            simp [h]; omega
        have HO4 := Lib.hid o4
        have hHB := HH.out.size
        have HN := Lib.hid fun (o : Obj) => (HH.out.alloc hHB o)
        clear hq o3 o4 f1 f2 f3 ht o2
        by_cases hk0 : k = 0
        · have j6 : decide ((0 : Int) < (k : Int)) = false := by simp; omega
          have j6' : decide (0 < k) = false := by simp; omega
          clear hk0
          go_wp2_with fail
          simp only [List.append_eq, List.cons_append, List.nil_append]
          go_quiet (fail)
          go_wp2_with fail
          go_round
          case rel => exact ⟨k + 1, by omega, by go_num, Lib.hid (below_drewN (HN.out _) nq)⟩
          case measure => simp [intOf]; omega
        · obtain ⟨j, rfl⟩ : ∃ j, k = j + 1 := ⟨k - 1, by omega⟩
          obtain ⟨u, hu⟩ : ∃ u, L[j]? = some u := ⟨_, List.getElem?_eq_getElem (by omega)⟩
          have o5 := HO4.out u (by omega) (by simpa using hu)
          obtain ⟨g1, g2, g3⟩ := flat3 L j u hu
          obtain ⟨uk, us, ua⟩ := u
          dsimp only at o5 g1 g2 g3
          have e5 : ∀ ob, (wr.alloc ob).cell? ⟨b, o + j * 3 + 1, none⟩ = some (.string ⟨us.toArray⟩) := fun ob => (World.cell?_of_block (a := ⟨b, o + j * 3 + 1, none⟩) (Below.heap_alloc wr ob b hblt)).trans (by rw [Nat.add_assoc]; exact hc1 _ _ g2)
          have e6 : ∀ ob, (wr.alloc ob).cell? ⟨b, o + j * 3 + 2, none⟩ = some (.int .i64 (ua : Int)) := fun ob => (World.cell?_of_block (a := ⟨b, o + j * 3 + 2, none⟩) (Below.heap_alloc wr ob b hblt)).trans (by rw [Nat.add_assoc]; exact hc1 _ _ g3)
          have j6 : decide ((0 : Int) < (j : Int) + 1) = true := decide_eq_true (by omega)
          have j7 : decide ((ta : Int) < (ua : Int) + (us.length : Int)) = false := by simp; omega
          have j8 : (j : Int) + 1 - 1 = (j : Int) := by omega
          have j9 : ((j : Int) + 1 == (L.length : Int) - 1) = q := by have := j5; push_cast at this; exact this
          clear g1 g2 g3 hu hk0 hc1
          go_wp2_with fail
          simp only [List.append_eq, List.cons_append, List.nil_append]
          go_quiet (fail)
          go_wp2_with fail
          go_round
          case rel => exact ⟨j + 1 + 1, by omega, by go_num, Lib.hid (below_drewN (HN.out _) nq)⟩
          case measure => simp [intOf]; omega
      · have HB2 := Lib.hid (HB.out.trans (HH.out.mono HB.out.size))
        go_wp2_with fail
        refine (H5.out _).mono ?_
        rintro e w3 ⟨rfl, b3⟩
        have B3 := Lib.hid (HB2.out.trans (b3.mono HB2.out.size))
        clear b3
        go_wp2_with fail
        go_ret
        exact ⟨rfl, B3.out⟩
  · have hnil := words_err s.data.toList her
    generalize wordsL s.data.toList = D at *
    obtain ⟨L, at_, er⟩ := D
    dsimp only at *
    subst hnil
    have hwd2 : Calls Tryd.prog 7 #[.string s] W fun e w' => ∃ A c, e = .returned (.tuple #[.slice A 0 c, .int .i64 (at_ : Int), .int .i64 (er : Int)]) ∧ Below W.heap.size W w' := hwd.mono fun e w' ⟨A, c, h1, _, h3⟩ => ⟨A, c, h1, h3⟩
    have HW := Lib.hid hwd2
    have n1 : ((er : Int) != 0) = true := by simp; omega
    clear hwd hwd2 her
    go_enter Tryd.func6, Tryd.ntmps6
    go_wp2_with fail
    refine HW.out.mono ?_
    rintro e w1 ⟨A, c, rfl, hb⟩
    have HB := Lib.hid hb
    clear hb
    go_wp2_with fail
    refine (H5.out _).mono ?_
    rintro e w3 ⟨rfl, b3⟩
    have B3 := Lib.hid (HB.out.trans (b3.mono HB.out.size))
    clear b3
    go_wp2_with fail
    go_ret
    exact ⟨rfl, B3.out⟩
end Go.Proofs.YtiagagljghoacaaDoor.Lx
