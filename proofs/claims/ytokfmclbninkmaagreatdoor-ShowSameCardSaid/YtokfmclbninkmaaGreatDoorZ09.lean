/- DERIVED. ShSm in one text. By an AI agent. -/
import Derived.Test.YtokfmclbninkmaaGreatDoorZ08
/- DERIVED. The reference's Same, and the program's, of any two trees. By an AI agent. -/
namespace Go.Proofs.YtokfmclbninkmaaGreatDoor.Sh
open Go Go.ChangeShapes Go.WideShapes Go.ChangeAt Go.RowKit Lx Args Pa
set_option linter.unusedVariables false
set_option linter.unusedSimpArgs false
abbrev nzA (k a : Int) (s : Bs) (n : Nat) (A : Option Addr) (la cA : Nat) (B : Option Addr) (lb cB : Nat) : Value := .agg #[.int .i64 k, .string ⟨s.toArray⟩, .int .u32 (n : Int), .int .i64 a, .slice A la cA, .slice B lb cB]
theorem sames_drop {l l' : List Tz} (h : l.length = l'.length) {i : Nat} {x y : Tz} (hx : l[i]? = some x) (hy : l'[i]? = some y) : sameBs (l.drop i) (l'.drop i) = (sameB x y && sameBs (l.drop (i + 1)) (l'.drop (i + 1))) := by
  have h1 : i < l.length := by by_cases hh : i < l.length; exact hh; rw [List.getElem?_eq_none (by omega)] at hx; cases hx
  have h2 : i < l'.length := by omega
  rw [List.getElem?_eq_getElem h1] at hx
  rw [List.getElem?_eq_getElem h2] at hy
  rw [List.drop_eq_getElem_cons h1, List.drop_eq_getElem_cons h2, Option.some.inj hx, Option.some.inj hy]
  conv => lhs; unfold sameBs
theorem sames_lens : ∀ {l l' : List Tz}, l.length ≠ l'.length → sameBs l l' = false
  | [], [], h => absurd rfl h
  | [], _ :: _, _ => rfl
  | _ :: _, [], _ => rfl
  | x :: l, y :: l', h => by
    unfold sameBs
    rw [sames_lens (l := l) (l' := l') (by simpa using h), Bool.and_false]
set_option maxRecDepth 100000 in
set_option maxHeartbeats 8000000 in
theorem rsameB : ∀ (m : Nat) (x y : Tz), SizeOf.sizeOf x < m → ∀ (w : World) (k a : Int) (s : Bs) (n : Nat) (A : Option Addr) (la cA : Nat) (B : Option Addr) (lb cB : Nat) (k' a' : Int) (s' : Bs) (n' : Nat) (A' : Option Addr) (la' cA' : Nat) (B' : Option Addr) (lb' cB' : Nat),
    TIz w x (nzC k a s n A la cA B lb cB) → TIz w y (nzC k' a' s' n' A' la' cA' B' lb' cB') →
    Calls Tryz.prog 13 #[nzA k a s n A la cA B lb cB, nzA k' a' s' n' A' la' cA' B' lb' cB', .bool false] w
      fun e w' => e = .returned (.bool (sameB x y)) ∧ Below w.heap.size w w'
  | 0, x, y, h => absurd h (Nat.not_lt_zero _)
  | m + 1, .mk k1 a1 s1 n1 ps l, .mk k2 a2 s2 n2 qs l2, hm => fun w k a s n A la cA B lb cB k' a' s' n' A' la' cA' B' lb' cB' hT hT' => by
    obtain ⟨rfl, rfl, rfl, rfl, rfl, rfl, hl, hp, hB, css, hL, hS⟩ := tIz_parts hT
    obtain ⟨rfl, rfl, rfl, rfl, rfl, rfl, hl', hp', hB', css', hL', hS'⟩ := tIz_parts hT'
    have hlm : l.length ≤ 9223372036854775807 := hl
    have hlm' : l2.length ≤ 9223372036854775807 := hl'
    obtain ⟨w0, hw0⟩ : ∃ w0, (w.alloc (.cells #[.int .i64 k, .string ⟨s.toArray⟩, .int .u32 (n : Int), .int .i64 a, .slice A l.length cA, .slice B ps.length cB] 26)).alloc (.cells #[.int .i64 k', .string ⟨s'.toArray⟩, .int .u32 (n' : Int), .int .i64 a', .slice A' l2.length cA', .slice B' qs.length cB'] 26) = w0 := ⟨_, rfl⟩
    have hs0 : (w.alloc (.cells #[.int .i64 k, .string ⟨s.toArray⟩, .int .u32 (n : Int), .int .i64 a, .slice A l.length cA, .slice B ps.length cB] 26)).heap.size = w.heap.size + 1 := by simp
    have hb0 : Below w.heap.size w w0 := by rw [← hw0]; exact ((Below.refl _ _).alloc (Nat.le_refl _) _).alloc (by simp) _
    have hX : Blk w0 w.heap.size 26 #[.int .i64 k, .string ⟨s.toArray⟩, .int .u32 (n : Int), .int .i64 a, .slice A l.length cA, .slice B ps.length cB] := by rw [← hw0]; exact (Blk.new _ _ _).alloc _
    have hY : Blk w0 (w.heap.size + 1) 26 #[.int .i64 k', .string ⟨s'.toArray⟩, .int .u32 (n' : Int), .int .i64 a', .slice A' l2.length cA', .slice B' qs.length cB'] := by rw [← hw0, ← hs0]; exact Blk.new _ _ _
    by_cases hk : k = k'
    rotate_left
    · have hr : sameB (.mk k a s n ps l) (.mk k' a' s' n' qs l2) = false := by unfold sameB; simp [hk]
      rw [hr]
      have q1 : (k != k') = true := by simpa using hk
      have q2 : (k == k') = false := by simpa using hk
      have HW := Lib.hid hw0; have HB0 := Lib.hid hb0
      clear hT hT' hB hB' hL hS hL' hS' hm hw0 hb0 hX hY hs0 hr hk
      go_enter Tryz.func13, Tryz.ntmps13
      go_wp2_with fail
      rw [HW.out]
      go_ret
      exact ⟨rfl, HB0.out⟩
    subst hk
    by_cases hs : s = s'
    rotate_left
    · have hr : sameB (.mk k a s n ps l) (.mk k a' s' n' qs l2) = false := by unfold sameB; simp [hs]
      rw [hr]
      have q1 : (s == s') = false := by simpa using hs
      have HW := Lib.hid hw0; have HB0 := Lib.hid hb0
      clear hT hT' hB hB' hL hS hL' hS' hm hw0 hb0 hX hY hs0 hr hs
      go_enter Tryz.func13, Tryz.ntmps13
      go_wp2_with fail
      rw [HW.out]
      go_ret
      exact ⟨rfl, HB0.out⟩
    subst hs
    by_cases hn : n = n'
    rotate_left
    · have hr : sameB (.mk k a s n ps l) (.mk k a' s n' qs l2) = false := by unfold sameB; simp [hn]
      rw [hr]
      have q1 : ((n : Int) != (n' : Int)) = true := by simp; omega
      have q2 : ((n : Int) == (n' : Int)) = false := by simp; omega
      have HW := Lib.hid hw0; have HB0 := Lib.hid hb0
      clear hT hT' hB hB' hL hS hL' hS' hm hw0 hb0 hX hY hs0 hr hn
      go_enter Tryz.func13, Tryz.ntmps13
      go_wp2_with fail
      rw [HW.out]
      go_ret
      exact ⟨rfl, HB0.out⟩
    subst hn
    have HN := Lib.hid (rnamesB B B' cB cB' ps qs w0 (hB.below hb0) (hB'.below hb0) hp hp')
    obtain ⟨res, hres⟩ : ∃ res, sameB (.mk k a s n ps l) (.mk k a' s n qs l2) = res := ⟨_, rfl⟩
    rw [hres]
    obtain ⟨pq, hpq⟩ : ∃ pq : Bool, (ps == qs) = pq := ⟨_, rfl⟩
    have hr0 : res = (pq && sameBs l l2) := by rw [← hres, ← hpq]; unfold sameB; simp
    rw [hpq] at HN
    have HL := Lib.hid (hL.below hb0); have HS := Lib.hid (TsIz.below hb0 hS); have HL' := Lib.hid (hL'.below hb0); have HS' := Lib.hid (TsIz.below hb0 hS')
    have HM := Lib.hid hm
    have IH := Lib.hid (rsameB m)
    have HX := Lib.hid hX; have HY := Lib.hid hY; have HB0 := Lib.hid hb0; have HW := Lib.hid hw0; have HR := Lib.hid hr0
    clear hT hT' hB hB' hL hS hL' hS' hm hw0 hb0 hX hY hs0 hres hpq hr0 hp hp'
    cases pq with
    | false =>
      go_enter Tryz.func13, Tryz.ntmps13
      go_wp2_with fail
      rw [HW.out]
      refine HN.out.mono ?_
      rintro e w1 ⟨rfl, hb1⟩
      have HB1 := Lib.hid (HB0.out.trans (hb1.mono HB0.out.size))
      clear hb1
      go_wp2_with fail
      go_ret
      exact ⟨by rw [HR.out]; rfl, HB1.out⟩
    | true =>
    by_cases hle : l.length = l2.length
    rotate_left
    · have HF := Lib.hid (sames_lens hle)
      have q1 : ((l.length : Int) != (l2.length : Int)) = true := by simp; omega
      have q2 : ((l.length : Int) == (l2.length : Int)) = false := by simp; omega
      clear hle
      go_enter Tryz.func13, Tryz.ntmps13
      go_wp2_with fail
      rw [HW.out]
      refine HN.out.mono ?_
      rintro e w1 ⟨rfl, hb1⟩
      have c4 : w1.cell? ⟨w.heap.size, 4, none⟩ = some (.slice A l.length cA) := (HX.out.below hb1 HX.out.lt).cell 4
      have d4 : w1.cell? ⟨w.heap.size + 1, 4, none⟩ = some (.slice A' l2.length cA') := (HY.out.below hb1 HY.out.lt).cell 4
      have HB1 := Lib.hid (HB0.out.trans (hb1.mono HB0.out.size))
      clear hb1
      go_wp2_with fail
      go_ret
      exact ⟨by rw [HR.out, HF.out]; rfl, HB1.out⟩
    have HLE := Lib.hid hle
    rw [← hle] at HW HY ⊢
    clear hle hlm'
    go_enter Tryz.func13, Tryz.ntmps13
    go_wp2_with fail
    rw [HW.out]
    refine HN.out.mono ?_
    rintro e w1 ⟨rfl, hb1⟩
    have c4 : w1.cell? ⟨w.heap.size, 4, none⟩ = some (.slice A l.length cA) := (HX.out.below hb1 HX.out.lt).cell 4
    have d4 : w1.cell? ⟨w.heap.size + 1, 4, none⟩ = some (.slice A' l.length cA') := (HY.out.below hb1 HY.out.lt).cell 4
    have HB1 := Lib.hid hb1
    clear hb1
    go_wp2_with fail
    go_loopw [7] (fun vi wr => ∃ i : Nat, i ≤ l.length ∧ vi = .int .i64 (i : Int) ∧ Hid (Below w0.heap.size w0 wr) ∧ Hid (res = sameBs (l.drop i) (l2.drop i))) (fun vi _ => l.length - (intOf vi).toNat)
    case atStart => exact ⟨0, by omega, rfl, HB1, Lib.hid (by rw [HR.out]; rfl)⟩
    case round =>
      clear c4 d4
      obtain ⟨i, hi, rfl, HH, HQ⟩ := hrel
      have c4 : wr.cell? ⟨w.heap.size, 4, none⟩ = some (.slice A l.length cA) := (HX.out.below HH.out HX.out.lt).cell 4
      have d4 : wr.cell? ⟨w.heap.size + 1, 4, none⟩ = some (.slice A' l.length cA') := (HY.out.below HH.out HY.out.lt).cell 4
      by_cases hlt : i < l.length
      · obtain ⟨x, hx⟩ : ∃ x, l[i]? = some x := ⟨_, List.getElem?_eq_getElem hlt⟩
        obtain ⟨y, hy⟩ : ∃ y, l2[i]? = some y := ⟨_, List.getElem?_eq_getElem (by rw [← HLE.out]; exact hlt)⟩
        have hd := sames_drop HLE.out hx hy
        obtain ⟨b, o, k3, a3, s3, n3, A3, la3, cA3, B3, lb3, cB3, rfl, hTx, hb3, e0, e1, e2, e3, e4, e5⟩ := partz_at (HL.out.below HH.out) (TsIz.below HH.out HS.out) hx
        obtain ⟨b', o', k4, a4, s4, n4, A4, la4, cA4, B4, lb4, cB4, rfl, hTy, hb4, g0, g1, g2, g3, g4, g5⟩ := partz_at (HL'.out.below HH.out) (TsIz.below HH.out HS'.out) hy
        have hsx : SizeOf.sizeOf x < m := by have := size_memz (k := k) (a := a) (n := n) (s := s) (ps := ps) hx; have := HM.out; omega
        have HC := Lib.hid fun (w2 : World) (hb : Below wr.heap.size wr w2) => IH.out x y hsx w2 k3 a3 s3 n3 A3 la3 cA3 B3 lb3 cB3 k4 a4 s4 n4 A4 la4 cA4 B4 lb4 cB4 (TIz.below hb hTx) (TIz.below hb hTy)
        rw [← HQ.out] at hd
        have HD := Lib.hid hd
        clear hTx hTy hx hy hsx hd
        go_wp2_with fail
        go_still_tail 11, (by kernel_rfl)
        change wpList _ _ _ _ _ wr.drew
        have hdr : Below wr.heap.size wr wr.drew := below_drewN (Below.refl _ _) 1
        obtain ⟨w2, hw2⟩ : ∃ w2, wr.drew = w2 := ⟨_, rfl⟩
        rw [hw2] at hdr ⊢
        have HC2 := Lib.hid (HC.out w2 hdr)
        have HB2 := Lib.hid (HH.out.trans (hdr.mono HH.out.size))
        clear hw2 hdr HC e0 e1 e2 e3 e4 e5 g0 g1 g2 g3 g4 g5
        go_wp2_with fail
        refine HC2.out.mono ?_
        rintro e w3 ⟨rfl, hb5⟩
        have HB3 := Lib.hid (HB2.out.trans (hb5.mono HB2.out.size))
        clear hb5
        cases hxy : sameB x y
        · rw [hxy] at HD
          go_wp2_with fail
          go_ret
          exact ⟨by rw [HD.out]; rfl, HB0.out.trans (HB3.out.mono HB0.out.size)⟩
        · rw [hxy] at HD
          go_wp2_with fail
          go_roundw
          case rel => exact ⟨i + 1, by omega, by go_num, HB3, Lib.hid (by rw [HD.out]; rfl)⟩
          case measure => simp [intOf]; omega
      · obtain rfl : i = l.length := by omega
        have hq := HQ.out
        rw [List.drop_length, HLE.out, List.drop_length] at hq
        have HQ2 := Lib.hid hq
        clear hq
        go_wp2_with fail
        go_ret
        exact ⟨by rw [HQ2.out]; rfl, HB0.out.trans (HH.out.mono HB0.out.size)⟩
end Go.Proofs.YtokfmclbninkmaaGreatDoor.Sh
