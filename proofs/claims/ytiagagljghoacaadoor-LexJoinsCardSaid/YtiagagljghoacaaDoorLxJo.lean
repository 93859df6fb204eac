/- DERIVED. The walk of LexJoins. By an AI agent. -/
import Derived.Test.YtiagagljghoacaaDoorLxOr
import Derived.Test.YtiagagljghoacaaDoorLxPj
import Derived.Test.YtiagagljghoacaaDoorLxJ
namespace Go.Proofs.YtiagagljghoacaaDoor.Lx
open Go Go.ChangeShapes Go.WideShapes Go.ChangeAt Go.RowKit Args
set_option linter.unusedVariables false
set_option linter.unusedSimpArgs false
theorem go_jlen : ∀ (f : Nat) (bs : Bs) (i n : Nat), bs.length < f → (joinL ((goL f bs i n).l.map Tk.s)).length ≤ 2 * bs.length
  | 0, bs, _, _, h => by omega
  | f + 1, [], i, n, h => by
    show (joinL ((if n = 4000 then (⟨[], i, 150⟩ : Wd) else ⟨[⟨0, [], i⟩], 0, 0⟩).l.map Tk.s)).length ≤ 0
    split <;> exact Nat.le_refl _
  | f + 1, c :: r, i, n, h => by
    rcases ht : tokC c r with _ | ⟨k, m⟩
    · rw [goL_none ht]; exact Nat.zero_le _
    · rw [goL_some ht]
      have hm := tok_len ht
      have hr := rest_len ht h
      have hrl := rest_le ((c :: r).drop m)
      rw [List.length_drop] at hrl
      have ih := go_jlen f (restL ((c :: r).drop m)) (i + m + skipL false ((c :: r).drop m)) (n + 1) hr
      split
      · exact Nat.zero_le _
      · unfold Wd.cons
        split
        · generalize goL f (restL ((c :: r).drop m)) (i + m + skipL false ((c :: r).drop m)) (n + 1) = D at *
          have hX : ((c :: r).take m).length = m := by rw [List.length_take]; omega
          generalize (c :: r).take m = X at *
          show (joinL (X :: D.l.map Tk.s)).length ≤ _
          cases hD : D.l.map Tk.s with
          | nil => show X.length ≤ _; omega
          | cons u l =>
            rw [hD] at ih
            show (X ++ 32 :: joinL (u :: l)).length ≤ _
            rw [List.length_append, List.length_cons]
            omega
        · omega
theorem words_jlen (s : Bs) : (joinL ((wordsL s).l.map Tk.s)).length ≤ 40000 := by
  unfold wordsL
  split
  · exact Nat.zero_le _
  · have := go_jlen (s.length + 1) (s.drop (skipL false s)) (skipL false s) 0 (by rw [List.length_drop]; omega)
    rw [List.length_drop] at this
    omega
set_option maxRecDepth 100000 in
set_option maxHeartbeats 4000000 in
theorem lexJoins.walk (W : World) (s : ByteArray) (hs : s.size ≤ 140737488351232) : Calls Tryd.prog 5 #[.string s] W fun e w' => e = .returned (.bool true) ∧ Below W.heap.size W w' := by
  have hwd := pwords s W
  unfold PWordsP at hwd
  have H5 := Lib.hid lives
  by_cases her : (wordsL s.data.toList).er = 0
  · have hj := words_join s.data.toList her
    have hfew := words_few s.data.toList
    have hjl := words_jlen s.data.toList
    generalize wordsL s.data.toList = D at *
    obtain ⟨L, at_, er⟩ := D
    dsimp only at *
    subst her
    have hwd2 : Calls Tryd.prog 7 #[.string s] W fun e w' => ∃ A c, e = .returned (.tuple #[.slice A L.length c, .int .i64 (at_ : Int), .int .i64 0]) ∧ Lies w' A (L.flatMap tkC) ∧ Below W.heap.size W w' := hwd
    have HW := Lib.hid hwd2
    have HPJ := Lib.hid fun A c w hA => pjoin A c L w hA (by omega) (by omega)
    have HRJ := Lib.hid fun A c w hA => join A c L w hA (by omega) (by omega)
    obtain ⟨T, hT⟩ : ∃ T, joinL (L.map Tk.s) = T := ⟨_, rfl⟩
    rw [hT] at hj HPJ HRJ hjl
    have hwt := fun w => pwords ⟨T.toArray⟩ w
    unfold PWordsP at hwt
    have hsd : (⟨T.toArray⟩ : ByteArray).data.toList = T := rfl
    rw [hsd] at hwt
    clear hwd hwd2
    by_cases h20 : 20000 < T.length
    · rw [words_long T h20] at hwt
      have HWT := Lib.hid (show ∀ w, Calls Tryd.prog 7 #[.string ⟨T.toArray⟩] w fun e w' => ∃ A c, e = .returned (.tuple #[.slice A 0 c, .int .i64 0, .int .i64 150]) ∧ Below w.heap.size w w' from fun w => (hwt w).mono fun e w' ⟨A, c, h1, _, h3⟩ => ⟨A, c, h1, h3⟩)
      have i1 : decide ((20000 : Int) < (T.length : Int)) = true := decide_eq_true (by omega)
      clear hwt hj
      go_enter Tryd.func5, Tryd.ntmps5
      go_wp2_with fail
      refine HW.out.mono ?_
      rintro e w1 ⟨A, c, rfl, hL, hb1⟩
      have HB1 := Lib.hid hb1; have HL := Lib.hid hL
      clear hb1 hL
      go_wp2_with fail
      refine (HPJ.out A c w1 HL.out).mono ?_
      rintro e w2 ⟨rfl, hb2⟩
      have HB2 := Lib.hid (HB1.out.trans (hb2.mono HB1.out.size))
      clear hb2
      go_wp2_with fail
      refine (HWT.out w2).mono ?_
      rintro e w3 ⟨A3, c3, rfl, hb3⟩
      have HB3 := Lib.hid (HB2.out.trans (hb3.mono HB2.out.size))
      clear hb3
      go_wp2_with fail
      refine (H5.out _).mono ?_
      rintro e w4 ⟨rfl, hb4⟩
      have HB4 := Lib.hid (HB3.out.trans (hb4.mono HB3.out.size))
      clear hb4
      go_wp2_with fail
      go_ret
      exact ⟨rfl, HB4.out⟩
    · obtain ⟨j1, j2⟩ := hj (by omega)
      generalize wordsL T = D2 at *
      obtain ⟨M, at2, er2⟩ := D2
      dsimp only at *
      subst j1
      have hml : M.length = L.length := by have := congrArg List.length j2; simpa [strip] using this
      have HWT := Lib.hid (show ∀ w, Calls Tryd.prog 7 #[.string ⟨T.toArray⟩] w fun e w' => ∃ A c, e = .returned (.tuple #[.slice A M.length c, .int .i64 (at2 : Int), .int .i64 0]) ∧ Lies w' A (M.flatMap tkC) ∧ Below w.heap.size w w' from hwt)
      have HSM := Lib.hid fun A B c d w hA hB => same A B c d L M false w hA hB j2.symm nofun (by omega)
      have i1 : decide ((20000 : Int) < (T.length : Int)) = false := decide_eq_false (by omega)
      clear hwt hj hml j2
      go_enter Tryd.func5, Tryd.ntmps5
      go_wp2_with fail
      refine HW.out.mono ?_
      rintro e w1 ⟨A, c, rfl, hL, hb1⟩
      have HB1 := Lib.hid hb1; have HL := Lib.hid hL
      clear hb1 hL
      go_wp2_with fail
      refine (HPJ.out A c w1 HL.out).mono ?_
      rintro e w2 ⟨rfl, hb2⟩
      have HL2 := Lib.hid (HL.out.below hb2)
      have HB2 := Lib.hid (HB1.out.trans (hb2.mono HB1.out.size))
      clear hb2
      go_wp2_with fail
      refine (HWT.out w2).mono ?_
      rintro e w3 ⟨A3, c3, rfl, hM, hb3⟩
      have HL3 := Lib.hid (HL2.out.below hb3); have HM3 := Lib.hid hM
      have HB3 := Lib.hid (HB2.out.trans (hb3.mono HB2.out.size))
      clear hb3 hM
      go_wp2_with fail
      refine (HRJ.out A c w3 HL3.out).mono ?_
      rintro e w' ⟨rfl, rfl⟩
      go_wp2_with fail
      refine (HSM.out A A3 c c3 _ HL3.out HM3.out).mono ?_
      rintro e w4 ⟨rfl, hb4⟩
      have HB4 := Lib.hid (HB3.out.trans (hb4.mono HB3.out.size))
      clear hb4
      go_wp2_with fail
      refine (H5.out _).mono ?_
      rintro e w5 ⟨rfl, hb5⟩
      have HB5 := Lib.hid (HB4.out.trans (hb5.mono HB4.out.size))
      clear hb5
      go_wp2_with fail
      go_ret
      exact ⟨rfl, HB5.out⟩
  · have hnil := words_err s.data.toList her
    generalize wordsL s.data.toList = D at *
    obtain ⟨L, at_, er⟩ := D
    dsimp only at *
    subst hnil
    have hwd2 : Calls Tryd.prog 7 #[.string s] W fun e w' => ∃ A c, e = .returned (.tuple #[.slice A 0 c, .int .i64 (at_ : Int), .int .i64 (er : Int)]) ∧ Below W.heap.size W w' := hwd.mono fun e w' ⟨A, c, h1, _, h3⟩ => ⟨A, c, h1, h3⟩
    have HW := Lib.hid hwd2
    have n1 : ((er : Int) != 0) = true := by simp; omega
    clear hwd hwd2 her
    go_enter Tryd.func5, Tryd.ntmps5
    go_wp2_with fail
    refine HW.out.mono ?_
    rintro e w1 ⟨A, c, rfl, hb⟩
    have HB := Lib.hid hb
    clear hb
    go_wp2_with fail
    refine (H5.out _).mono ?_
    rintro e w3 ⟨rfl, b3⟩
    have B3 := Lib.hid (HB.out.trans (b3.mono HB.out.size))
    clear b3
    go_wp2_with fail
    go_ret
    exact ⟨rfl, B3.out⟩
end Go.Proofs.YtiagagljghoacaaDoor.Lx
