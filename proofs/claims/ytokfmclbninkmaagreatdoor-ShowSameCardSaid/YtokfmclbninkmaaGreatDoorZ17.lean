/- DERIVED. ShPm in one text. By an AI agent. -/
import Derived.Test.YtokfmclbninkmaaGreatDoorZ09
/- DERIVED. slices.Equal of texts, slices.EqualFunc of trees, and the program's Same, of any two trees. By an AI agent. -/
namespace Go.Proofs.YtokfmclbninkmaaGreatDoor.Sh
open Go Go.ChangeShapes Go.WideShapes Go.ChangeAt Go.RowKit Lx Args Pa
set_option linter.unusedVariables false
set_option linter.unusedSimpArgs false
set_option maxRecDepth 100000 in
set_option maxHeartbeats 2000000 in
theorem equalS (A B : Option Addr) (c d : Nat) (ps qs : List Bs) (w : World) (hA : Lies w A (ps.map strV)) (hB : Lies w B (qs.map strV)) (hl : ps.length ≤ maxLen) (hl' : qs.length ≤ maxLen) :
    Calls Tryz.prog 25 #[.slice A ps.length c, .slice B qs.length d] w fun e w' => e = .returned (.bool (ps == qs)) ∧ Below w.heap.size w w' := by
  have hlm : ps.length ≤ 9223372036854775807 := hl
  by_cases hne : ps.length = qs.length
  · have HA := Lib.hid hA; have HB := Lib.hid hB; have HE := Lib.hid hne
    obtain ⟨res, hres⟩ : ∃ res : Bool, (ps == qs) = res := ⟨_, rfl⟩
    rw [← hne, hres]
    have HR := Lib.hid hres
    clear hA hB hne hres hl'
    go_enter Tryz.func25, Tryz.ntmps25
    go_wp2_with fail
    go_loopw [13] (fun vi wr => ∃ i : Nat, i ≤ ps.length ∧ vi = .int .i64 (i : Int) ∧ Hid (Below w.heap.size w wr) ∧ Hid (∀ j, j < i → ps[j]? = qs[j]?)) (fun vi _ => ps.length - (intOf vi).toNat)
    case atStart => exact ⟨0, by omega, rfl, Lib.hid (Below.refl _ _), Lib.hid fun j hj => absurd hj (by omega)⟩
    case round =>
      obtain ⟨i, hi, rfl, HH, HQ⟩ := hrel
      by_cases hlt : i < ps.length
      · have hlt2 : i < qs.length := by rw [← HE.out]; exact hlt
        obtain ⟨p, hp⟩ : ∃ p, ps[i]? = some p := ⟨_, List.getElem?_eq_getElem hlt⟩
        obtain ⟨q, hq⟩ : ∃ q, qs[i]? = some q := ⟨_, List.getElem?_eq_getElem hlt2⟩
        have f1 : (ps.map strV)[i]? = some (.string ⟨p.toArray⟩) := by rw [List.getElem?_map, hp]; rfl
        have f2 : (qs.map strV)[i]? = some (.string ⟨q.toArray⟩) := by rw [List.getElem?_map, hq]; rfl
        obtain ⟨b, o, rfl, _, hc1⟩ := (HA.out.below HH.out).at_ f1
        obtain ⟨b', o', rfl, _, hc2⟩ := (HB.out.below HH.out).at_ f2
        have e1 := hc1 _ _ f1
        have e2 := hc2 _ _ f2
        by_cases hpq : p = q
        · subst hpq
          have HN := Lib.hid (show ∀ j, j < i + 1 → ps[j]? = qs[j]? from fun j hj => by
            by_cases h : j < i
            · exact HQ.out j h
            · obtain rfl : j = i := by omega
              rw [hp, hq])
          clear hc1 hc2 f1 f2 hp hq hlt2
          go_wp2_with fail
          go_quiet (fail)
          go_wp2_with fail
          go_roundw
          case rel => exact ⟨i + 1, by omega, by go_num, Lib.hid (below_drewN HH.out nq), HN⟩
          case measure => simp [intOf]; omega
        · have hb : (p == q) = false := by simpa using hpq
          have hr : res = false := by
            rw [← HR.out]
            simp only [beq_eq_false_iff_ne, ne_eq]
            intro h
            subst h
            rw [hp] at hq
            exact hpq (Option.some.inj hq)
          have HRR := Lib.hid hr
          clear hc1 hc2 f1 f2 hp hq hlt2 hpq hr
          go_wp2_with fail
          go_quiet (fail)
          go_wp2_with fail
          go_ret
          exact ⟨by rw [HRR.out]; rfl, below_drewN HH.out nq⟩
      · have hr : res = true := by
          rw [← HR.out]
          simp only [beq_iff_eq]
          refine List.ext_getElem? fun j => ?_
          by_cases hj : j < ps.length
          · exact HQ.out j (by omega)
          · rw [List.getElem?_eq_none (by omega), List.getElem?_eq_none (by have := HE.out; omega)]
        have HRR := Lib.hid hr
        clear hr
        go_wp2_with fail
        go_ret
        exact ⟨by rw [HRR.out]; rfl, HH.out⟩
  · have hr : (ps == qs) = false := by
      simp only [beq_eq_false_iff_ne, ne_eq]
      intro h
      exact hne (by rw [h])
    have hi : ((ps.length : Int) != (qs.length : Int)) = true := by simp; omega
    have hi2 : ((ps.length : Int) == (qs.length : Int)) = false := by simp; omega
    rw [hr]
    clear hr hA hB
    go_enter Tryz.func25, Tryz.ntmps25
    go_wp2_with fail
    go_ret
    exact ⟨rfl, Below.refl _ _⟩
/-- The program's Same of two trees, whatever their places. -/
def SmC (m : Nat) : Prop := ∀ (x y : Tz), SizeOf.sizeOf x < m → ∀ (w : World) (k a : Int) (s : Bs) (n : Nat) (A : Option Addr) (la cA : Nat) (B : Option Addr) (lb cB : Nat) (k' a' : Int) (s' : Bs) (n' : Nat) (A' : Option Addr) (la' cA' : Nat) (B' : Option Addr) (lb' cB' : Nat),
    TIz w x (nzC k a s n A la cA B lb cB) → TIz w y (nzC k' a' s' n' A' la' cA' B' lb' cB') →
    Calls Tryz.prog 12 #[nzA k a s n A la cA B lb cB, nzA k' a' s' n' A' la' cA' B' lb' cB'] w fun e w' => e = .returned (.bool (sameB x y)) ∧ Below w.heap.size w w'
set_option maxRecDepth 100000 in
set_option maxHeartbeats 4000000 in
theorem equalF {m : Nat} (H : SmC m) (A B : Option Addr) (c d : Nat) (l l2 : List Tz) (w : World) (css css' : List (List Value)) (hL : Lies w A css.flatten) (hS : TsIz w l css) (hL' : Lies w B css'.flatten) (hS' : TsIz w l2 css') (hl : l.length ≤ maxLen) (hl' : l2.length ≤ maxLen) (hm : ∀ (i : Nat) (x : Tz), l[i]? = some x → SizeOf.sizeOf x < m) :
    Calls Tryz.prog 26 #[.slice A l.length c, .slice B l2.length d, .func (.func 12) #[] #[]] w fun e w' => e = .returned (.bool (sameBs l l2)) ∧ Below w.heap.size w w' := by
  have hlm : l.length ≤ 9223372036854775807 := hl
  obtain ⟨res, hres⟩ : ∃ res, sameBs l l2 = res := ⟨_, rfl⟩
  by_cases hle : l.length = l2.length
  rotate_left
  · rw [sames_lens hle]
    have q1 : ((l.length : Int) != (l2.length : Int)) = true := by simp; omega
    have q2 : ((l.length : Int) == (l2.length : Int)) = false := by simp; omega
    clear hres hL hS hL' hS' hm
    go_enter Tryz.func26, Tryz.ntmps26
    go_wp2_with fail
    go_ret
    exact ⟨rfl, Below.refl _ _⟩
  have HLE := Lib.hid hle
  rw [hres, ← hle]
  have HL := Lib.hid hL; have HS := Lib.hid hS; have HL' := Lib.hid hL'; have HS' := Lib.hid hS'; have HM := Lib.hid hm; have HR := Lib.hid hres
  clear hle hl' hL hS hL' hS' hm hres
  go_enter Tryz.func26, Tryz.ntmps26
  go_wp2_with fail
  go_loopw [17] (fun vi wr => ∃ i : Nat, i ≤ l.length ∧ vi = .int .i64 (i : Int) ∧ Hid (Below w.heap.size w wr) ∧ Hid (res = sameBs (l.drop i) (l2.drop i))) (fun vi _ => l.length - (intOf vi).toNat)
  case atStart => exact ⟨0, by omega, rfl, Lib.hid (Below.refl _ _), Lib.hid HR.out.symm⟩
  case round =>
    obtain ⟨i, hi, rfl, HH, HQ⟩ := hrel
    by_cases hlt : i < l.length
    · obtain ⟨x, hx⟩ : ∃ x, l[i]? = some x := ⟨_, List.getElem?_eq_getElem hlt⟩
      obtain ⟨y, hy⟩ : ∃ y, l2[i]? = some y := ⟨_, List.getElem?_eq_getElem (by rw [← HLE.out]; exact hlt)⟩
      have hd := sames_drop HLE.out hx hy
      obtain ⟨b, o, k3, a3, s3, n3, A3, la3, cA3, B3, lb3, cB3, rfl, hTx, hb3, e0, e1, e2, e3, e4, e5⟩ := partz_at (HL.out.below HH.out) (TsIz.below HH.out HS.out) hx
      obtain ⟨b', o', k4, a4, s4, n4, A4, la4, cA4, B4, lb4, cB4, rfl, hTy, hb4, g0, g1, g2, g3, g4, g5⟩ := partz_at (HL'.out.below HH.out) (TsIz.below HH.out HS'.out) hy
      obtain ⟨w2, hw2⟩ : ∃ w2, (wr.alloc (.cells #[.int .i64 k3, .string ⟨s3.toArray⟩, .int .u32 (n3 : Int), .int .i64 a3, .slice A3 la3 cA3, .slice B3 lb3 cB3] 26)).alloc (.cells #[.int .i64 k4, .string ⟨s4.toArray⟩, .int .u32 (n4 : Int), .int .i64 a4, .slice A4 la4 cA4, .slice B4 lb4 cB4] 26) = w2 := ⟨_, rfl⟩
      have hb2 : Below wr.heap.size wr w2 := by rw [← hw2]; exact ((Below.refl _ _).alloc (Nat.le_refl _) _).alloc (by simp) _
      have HC := Lib.hid (H x y (HM.out i x hx) w2 k3 a3 s3 n3 A3 la3 cA3 B3 lb3 cB3 k4 a4 s4 n4 A4 la4 cA4 B4 lb4 cB4 (TIz.below hb2 hTx) (TIz.below hb2 hTy))
      rw [← HQ.out] at hd
      have HD := Lib.hid hd; have HW2 := Lib.hid hw2; have HB2 := Lib.hid (HH.out.trans (hb2.mono HH.out.size))
      clear hTx hTy hx hy hd hw2 hb2
      go_wp2_with fail
      rw [HW2.out]
      refine HC.out.mono ?_
      rintro e w3 ⟨rfl, hb5⟩
      have HB3 := Lib.hid (HB2.out.trans (hb5.mono HB2.out.size))
      clear hb5
      cases hxy : sameB x y
      · rw [hxy] at HD
        go_wp2_with fail
        go_ret
        exact ⟨by rw [HD.out]; rfl, HB3.out⟩
      · rw [hxy] at HD
        go_wp2_with fail
        go_roundw
        case rel => exact ⟨i + 1, by omega, by go_num, HB3, Lib.hid (by rw [HD.out]; rfl)⟩
        case measure => simp [intOf]; omega
    · obtain rfl : i = l.length := by omega
      have hq := HQ.out
      rw [List.drop_length, HLE.out, List.drop_length] at hq
      have HQ2 := Lib.hid hq
      clear hq
      go_wp2_with fail
      go_ret
      exact ⟨by rw [HQ2.out]; rfl, HH.out⟩
set_option maxRecDepth 100000 in
set_option maxHeartbeats 8000000 in
theorem psame : ∀ m, SmC m
  | 0 => fun x y h => absurd h (Nat.not_lt_zero _)
  | m + 1 => by
    intro x y hm w k a s n A la cA B lb cB k' a' s' n' A' la' cA' B' lb' cB' hT hT'
    obtain ⟨k1, a1, s1, n1, ps, l⟩ := x
    obtain ⟨k2, a2, s2, n2, qs, l2⟩ := y
    obtain ⟨rfl, rfl, rfl, rfl, rfl, rfl, hl, hp, hB, css, hL, hS⟩ := tIz_parts hT
    obtain ⟨rfl, rfl, rfl, rfl, rfl, rfl, hl', hp', hB', css', hL', hS'⟩ := tIz_parts hT'
    obtain ⟨w0, hw0⟩ : ∃ w0, (w.alloc (.cells #[.int .i64 k, .string ⟨s.toArray⟩, .int .u32 (n : Int), .int .i64 a, .slice A l.length cA, .slice B ps.length cB] 26)).alloc (.cells #[.int .i64 k', .string ⟨s'.toArray⟩, .int .u32 (n' : Int), .int .i64 a', .slice A' l2.length cA', .slice B' qs.length cB'] 26) = w0 := ⟨_, rfl⟩
    have hs0 : (w.alloc (.cells #[.int .i64 k, .string ⟨s.toArray⟩, .int .u32 (n : Int), .int .i64 a, .slice A l.length cA, .slice B ps.length cB] 26)).heap.size = w.heap.size + 1 := by simp
    have hb0 : Below w.heap.size w w0 := by rw [← hw0]; exact ((Below.refl _ _).alloc (Nat.le_refl _) _).alloc (by simp) _
    have hX : Blk w0 w.heap.size 26 #[.int .i64 k, .string ⟨s.toArray⟩, .int .u32 (n : Int), .int .i64 a, .slice A l.length cA, .slice B ps.length cB] := by rw [← hw0]; exact (Blk.new _ _ _).alloc _
    have hY : Blk w0 (w.heap.size + 1) 26 #[.int .i64 k', .string ⟨s'.toArray⟩, .int .u32 (n' : Int), .int .i64 a', .slice A' l2.length cA', .slice B' qs.length cB'] := by rw [← hw0, ← hs0]; exact Blk.new _ _ _
    obtain ⟨bk, hbk⟩ : ∃ bk : Bool, decide (k = k') = bk := ⟨_, rfl⟩
    obtain ⟨bs, hbs⟩ : ∃ bs : Bool, (s == s') = bs := ⟨_, rfl⟩
    obtain ⟨bn, hbn⟩ : ∃ bn : Bool, decide (n = n') = bn := ⟨_, rfl⟩
    obtain ⟨bp, hbp⟩ : ∃ bp : Bool, (ps == qs) = bp := ⟨_, rfl⟩
    have hr : sameB (.mk k a s n ps l) (.mk k' a' s' n' qs l2) = (bk && bs && bn && bp && sameBs l l2) := by rw [← hbk, ← hbs, ← hbn, ← hbp]; unfold sameB; rfl
    rw [hr]
    have q1 : (k == k') = bk := by rw [← hbk]; rfl
    have q1' : decide (k = k') = bk := hbk
    have q2 : ((n : Int) == (n' : Int)) = bn := by
      rw [← hbn]
      by_cases hh : n = n'
      · subst hh; simp
      · rw [decide_eq_false hh]; simp; omega
    have HE := Lib.hid (equalS B B' cB cB' ps qs w0 (hB.below hb0) (hB'.below hb0) hp hp')
    rw [hbp] at HE
    have HL := Lib.hid (hL.below hb0); have HS := Lib.hid (TsIz.below hb0 hS); have HL' := Lib.hid (hL'.below hb0); have HS' := Lib.hid (TsIz.below hb0 hS')
    have HF := Lib.hid fun (w2 : World) (hb : Below w0.heap.size w0 w2) => equalF (psame m) A A' cA cA' l l2 w2 css css' (HL.out.below hb) (TsIz.below hb HS.out) (HL'.out.below hb) (TsIz.below hb HS'.out) hl hl' (fun i x hx => by
      have := size_memz (k := k) (a := a) (n := n) (s := s) (ps := ps) hx
      omega)
    have HX := Lib.hid hX; have HY := Lib.hid hY; have HB0 := Lib.hid hb0; have HW := Lib.hid hw0
    clear hT hT' hB hB' hL hS hL' hS' hm hw0 hb0 hX hY hs0 hr hp hp' hbk hbn hbp hl hl' HL HS HL' HS'
    cases bk with
    | false =>
      go_enter Tryz.func12, Tryz.ntmps12
      go_wp2_with fail
      rw [HW.out]
      go_ret
      exact ⟨rfl, HB0.out⟩
    | true =>
    cases bs with
    | false =>
      go_enter Tryz.func12, Tryz.ntmps12
      go_wp2_with fail
      rw [HW.out]
      go_ret
      exact ⟨rfl, HB0.out⟩
    | true =>
    cases bn with
    | false =>
      go_enter Tryz.func12, Tryz.ntmps12
      go_wp2_with fail
      rw [HW.out]
      go_ret
      exact ⟨rfl, HB0.out⟩
    | true =>
    go_enter Tryz.func12, Tryz.ntmps12
    go_wp2_with fail
    rw [HW.out]
    refine HE.out.mono ?_
    rintro e w1 ⟨rfl, hb1⟩
    have c4 : w1.cell? ⟨w.heap.size, 4, none⟩ = some (.slice A l.length cA) := (HX.out.below hb1 HX.out.lt).cell 4
    have d4 : w1.cell? ⟨w.heap.size + 1, 4, none⟩ = some (.slice A' l2.length cA') := (HY.out.below hb1 HY.out.lt).cell 4
    have HB1 := Lib.hid (HB0.out.trans (hb1.mono HB0.out.size)); have HF1 := Lib.hid (HF.out w1 hb1)
    clear hb1
    cases bp with
    | false =>
      go_wp2_with fail
      go_ret
      exact ⟨rfl, HB1.out⟩
    | true =>
      go_wp2_with fail
      refine HF1.out.mono ?_
      rintro e w2 ⟨rfl, hb2⟩
      have HB2 := Lib.hid (HB1.out.trans (hb2.mono HB1.out.size))
      clear hb2
      go_wp2_with fail
      go_ret
      exact ⟨rfl, HB2.out⟩
end Go.Proofs.YtokfmclbninkmaaGreatDoor.Sh
