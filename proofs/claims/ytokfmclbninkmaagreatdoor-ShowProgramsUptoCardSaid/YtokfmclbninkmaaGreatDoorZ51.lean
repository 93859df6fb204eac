/- DERIVED. ShRp, ShWp in one text. By an AI agent. -/
import Derived.Test.YtokfmclbninkmaaGreatDoorZ49
import Derived.Test.YtokfmclbninkmaaGreatDoorZ50
/- DERIVED. The reference's Program. By an AI agent. -/
namespace Go.Proofs.YtokfmclbninkmaaGreatDoor.Rt
open Go Go.Sort Go.ChangeShapes Go.WideShapes Go.ChangeAt Go.RowKit Lx Args Pa Sh Wr Pq
set_option linter.unusedVariables false
set_option linter.unusedSimpArgs false
set_option maxRecDepth 100000 in
set_option maxHeartbeats 4000000 in
theorem rProgram (z : Tz) (hok : okz z) (hB : (prT dec z).length ≤ 1099511627776) (w : World) (k a : Int) (s : Bs) (n : Nat) (A : Option Addr) (la cA : Nat) (B : Option Addr) (lb cB : Nat) (hT : TIz w z (nzC k a s n A la cA B lb cB)) :
    Calls Tryz.prog 9 #[nzA k a s n A la cA B lb cB] w fun e w' => RtV ProgR (prT dec z) z e ∧ Below w.heap.size w w' := by
  obtain ⟨w1, hw1, hb1, hX1⟩ := a_box w (nB k a s n A la cA B lb cB)
  have hxl := hX1.lt
  have hpl := pa_le z 300 3000
  have HP := Lib.hid (rparts (SizeOf.sizeOf z + 1) z (Nat.lt_succ_self _) w1 k a s n A la cA B lb cB 300 3000 (by decide) (by decide) (TIz.below hb1 hT))
  have HTZ := Lib.hid fun w2 (hb : Below w.heap.size w w2) => TIz.below hb hT
  have hsplit : ∃ l css, la = l.length ∧ l.length ≤ maxLen ∧ Lies w A css.flatten ∧ TsIz w l css ∧ okzs l ∧ prT dec z = prTs dec l := by
    obtain ⟨k1, a1, s1, n1, ps, l⟩ := z
    obtain ⟨rfl, rfl, rfl, rfl, rfl, rfl, hl, hp, hLB, css, hL, hS⟩ := tIz_parts hT
    unfold okz at hok
    exact ⟨l, css, rfl, hl, hL, hS, hok.2.2.2, rfl⟩
  obtain ⟨l, css, rfl, hl, hL, hS, hoks, hpr⟩ := hsplit
  have hlm : l.length ≤ 9223372036854775807 := hl
  have HL := Lib.hid hL; have HS := Lib.hid hS; have HOK := Lib.hid hoks
  have HW := Lib.hid hw1; have HB1 := Lib.hid hb1; have HX1 := Lib.hid hX1
  obtain ⟨np, hnp⟩ : ∃ np, pa 300 3000 z = np := ⟨_, rfl⟩
  obtain ⟨tx, htx⟩ : ∃ tx, prT dec z = tx := ⟨_, rfl⟩
  have HNP := Lib.hid hnp
  have HTX := Lib.hid htx
  have HPT := Lib.hid (hpr.symm.trans htx)
  rw [htx] at hB
  have HB := Lib.hid hB
  rw [hnp] at HP hpl
  obtain ⟨⟨e0, e1, e2, e3, e4, e5⟩, z0, z1, z2, z3, z4, z5⟩ := Blk.c6 hX1
  clear hT hw1 hb1 hX1 hok hB hnp htx hpr hL hS hoks hl
  go_enter Tryz.func9, Tryz.ntmps9
  go_wp2_with fail
  rw [HW.out]
  refine (show Calls Tryz.prog 15 #[nzA k a s n A l.length cA B lb cB, .int .i64 300, .int .i64 3000] w1 _ from HP.out).mono ?_
  rintro e w2 ⟨rfl, hb2⟩
  have hx2 := HX1.out.below hb2 hxl
  clear e0 e1 e2 e3 e4 e5 z0 z1 z2 z3 z4 z5
  have hxl2 := hx2.lt
  have HX2 := Lib.hid hx2; have HB2 := Lib.hid (HB1.out.trans (hb2.mono HB1.out.size))
  clear hx2 hb2 HP
  by_cases hsm : np ≤ 3000
  rotate_left
  · have i1 : decide ((3000 : Int) < (np : Int)) = true := by simp; omega
    have i2 : decide (3000 < np) = true := by simp; omega
    have hend : RtV ProgR (prT dec z) z (.returned (.tuple #[.string ⟨#[]⟩, .int .i64 1])) := .inr ⟨by rw [HNP.out]; exact hsm, rfl⟩
    have HEND := Lib.hid hend
    clear hend hsm
    go_wp2_with fail
    go_ret2
    exact ⟨HEND.out, HB2.out⟩
  have i1 : decide ((3000 : Int) < (np : Int)) = false := by simp; omega
  have i2 : decide (3000 < np) = false := by simp; omega
  have HSM := Lib.hid (show pa 300 3000 z ≤ 3000 by rw [HNP.out]; exact hsm)
  clear hsm
  go_wp2_with fail
  go_loopw [4, 5] (fun vs vi wr => ∃ (i : Nat) (S : ByteArray), i ≤ l.length ∧ vs = .string S ∧ vi = .int .i64 (i : Int) ∧ Hid (Below w.heap.size w wr) ∧ Hid (Below w2.heap.size w2 wr) ∧ Hid (S.data.toList ++ prTs dec (l.drop i) = tx)) (fun _ vi _ => l.length - (intOf vi).toNat)
  case atStart => exact ⟨0, ⟨#[]⟩, by omega, rfl, rfl, HB2, Lib.hid (Below.refl _ _), Lib.hid (by simpa using HPT.out)⟩
  case round =>
    obtain ⟨i, S, hi, rfl, rfl, HH, HH2, HQ⟩ := hrel
    have hxr := HX2.out.below HH2.out hxl2
    obtain ⟨⟨e0, e1, e2, e3, e4, e5⟩, z0, z1, z2, z3, z4, z5⟩ := Blk.c6 hxr
    have hxlr := hxr.lt
    have hBB := HB.out
    have hsd := size_data S
    have hq := HQ.out
    by_cases hlt : i < l.length
    · obtain ⟨x, hx⟩ : ∃ x, l[i]? = some x := ⟨_, List.getElem?_eq_getElem hlt⟩
      obtain ⟨b2, o2, k3, a3, s3, n3, A3, la3, cA3, B3, lb3, cB3, rfl, hTx, hb3, g0, g1, g2, g3, g4, g5⟩ := partz_at (HL.out.below HH.out) (TsIz.below HH.out HS.out) hx
      rw [drop_at hx, prTs_cons] at hq
      have hlen := congrArg List.length hq
      simp only [List.length_append, List.length_cons, List.length_nil] at hlen
      have HC := Lib.hid (rst (SizeOf.sizeOf x + 1) x (Nat.lt_succ_self _) (okzs_at HOK.out hx) (by omega) wr k3 a3 s3 n3 A3 la3 cA3 B3 lb3 cB3 hTx)
      generalize stT dec x = tp at *
      have q2 : ¬ (9223372036854775807 < S.size + tp.length) := by omega
      have q3 : ¬ (9223372036854775807 < S.size + tp.length + 1) := by omega
      have hz1 : (S ++ ⟨tp.toArray⟩).size = S.size + tp.length := by rw [ByteArray.size_append, size_str tp]
      have HQ2 := Lib.hid hq
      clear hq hlen hTx hx HQ hsd hBB hxr
      go_wp2_with fail
      refine HC.out.mono ?_
      rintro e w3 ⟨rfl, hb5⟩
      have HB3 := Lib.hid (HH.out.trans (hb5.mono HH.out.size)); have HB32 := Lib.hid (HH2.out.trans (hb5.mono HH2.out.size))
      clear hb5
      go_wp2_with fail
      go_roundw
      case rel => exact ⟨i + 1, S ++ ⟨tp.toArray⟩ ++ ⟨#[10]⟩, by omega, rfl, by go_num, HB3, HB32, Lib.hid (by have := HQ2.out; simp only [ByteArray.data_append, Array.toList_append]; simpa using this)⟩
      case measure => simp [intOf]; omega
    · obtain rfl : i = l.length := by omega
      rw [List.drop_eq_nil_of_le (Nat.le_refl _), show prTs dec [] = [] from rfl, List.append_nil] at hq
      obtain rfl := bs_eq hq
      have HRD := Lib.hid (r_program ⟨tx.toArray⟩ wr)
      have HX3 := Lib.hid hxr; have HB3 := HH
      clear hq hsd hBB hxr HQ
      go_wp2_with fail
      refine HRD.out.mono ?_
      clear e0 e1 e2 e3 e4 e5 z0 z1 z2 z3 z4 z5
      rintro e w4 (⟨k', a', sx, n', A', la', cA', B', lb', cB', x, t, r, rfl, h1, h2, h3, hTx, hb4⟩ | ⟨a', er, rfl, hbad, hb4⟩)
      · have hiff := isT_ok (z := z) one_P h1 h2 h3
        have hx4 := HX3.out.below hb4 HX3.out.lt
        obtain ⟨⟨e0, e1, e2, e3, e4, e5⟩, z0, z1, z2, z3, z4, z5⟩ := Blk.c6 hx4
        have hxl4 := hx4.lt
        have HB4 := Lib.hid (HB3.out.trans (hb4.mono HB3.out.size))
        obtain ⟨w5, hw5, hb5, hX5⟩ := a_box w4 (nB (k' : Int) (a' : Int) sx n' A' la' cA' B' lb' cB')
        have HS := Lib.hid (rsameB (SizeOf.sizeOf (embz x) + 1) (embz x) z (Nat.lt_succ_self _) w5 (k' : Int) (a' : Int) sx n' A' la' cA' B' lb' cB' k a s n A l.length cA B lb cB (TIz.below hb5 (tIz_of hTx)) (HTZ.out w5 (HB4.out.trans (hb5.mono HB4.out.size))))
        have HW5 := Lib.hid hw5; have HB5 := Lib.hid (HB4.out.trans (hb5.mono HB4.out.size)); have HIFF := Lib.hid hiff
        obtain ⟨res, hres⟩ : ∃ res, sameB (embz x) z = res := ⟨_, rfl⟩
        rw [hres] at HS HIFF
        clear h1 h2 h3 hTx hb4 hx4 hiff hw5 hb5 hX5 hres
        go_wp2_with fail
        rw [HW5.out]
        refine (show Calls Tryz.prog 13 #[nzA (k' : Int) (a' : Int) sx n' A' la' cA' B' lb' cB', nzA k a s n A l.length cA B lb cB, .bool false] w5 _ from HS.out).mono ?_
        rintro e w6 ⟨rfl, hb6⟩
        have HB6 := Lib.hid (HB5.out.trans (hb6.mono HB5.out.size))
        clear hb6
        cases res with
        | true =>
          have hend : RtV ProgR (prT dec z) z (.returned (.tuple #[.string ⟨tx.toArray⟩, .int .i64 0])) := .inl ⟨HSM.out, .inl ⟨by rw [HTX.out]; exact HIFF.out.2 rfl, by rw [HTX.out]⟩⟩
          have HEND := Lib.hid hend
          clear hend
          go_wp2_with fail
          go_ret2
          exact ⟨HEND.out, HB6.out⟩
        | false =>
          have hend : RtV ProgR (prT dec z) z (.returned (.tuple #[.string ⟨#[]⟩, .int .i64 1])) := .inl ⟨HSM.out, .inr ⟨by rw [HTX.out]; exact fun h => absurd (HIFF.out.1 h) (by decide), rfl⟩⟩
          have HEND := Lib.hid hend
          clear hend
          go_wp2_with fail
          go_ret2
          exact ⟨HEND.out, HB6.out⟩
      · have hno := isT_bad (z := z) nobad_P nomore_P hbad
        have her := er_P hbad
        have hq : ((er : Int) != 0) = true := by simp; omega
        have HB4 := Lib.hid (HB3.out.trans (hb4.mono HB3.out.size))
        have hend : RtV ProgR (prT dec z) z (.returned (.tuple #[.string ⟨#[]⟩, .int .i64 1])) := .inl ⟨HSM.out, .inr ⟨by rw [HTX.out]; exact hno, rfl⟩⟩
        have HEND := Lib.hid hend
        have HB5 := Lib.hid (HB4.out.alloc HB4.out.size (.cells zNd 26))
        clear hend hno hbad hb4 her
        go_wp2_with fail
        go_ret2
        exact ⟨HEND.out, HB5.out⟩
end Go.Proofs.YtokfmclbninkmaaGreatDoor.Rt
/- DERIVED. The law ShowPrograms. By an AI agent. -/
namespace Go.Proofs.YtokfmclbninkmaaGreatDoor.Sw
open Go Go.ChangeShapes Go.WideShapes Go.ChangeAt Go.RowKit Lx Args Pa Sh Wr Rt Pq
set_option linter.unusedVariables false
set_option linter.unusedSimpArgs false
set_option maxRecDepth 100000 in
set_option maxHeartbeats 2000000 in
theorem walkP (w : World) (z : Tz) (cs : List Value) (hT : TIc True w z cs) (hn : nz z) (hb : bz z ≤ 1048576) (hTB : TabP w) :
    Calls Tryz.prog 3 #[.agg cs.toArray] w fun e w' => e = .returned (.bool true) ∧ Below w.heap.size w w' := by
  obtain ⟨k, a, s, n, A, la, cA, B, lb, cB, rfl⟩ := tIz_cells hT
  have hTc := hT
  have hT := tIz_weak hTc
  show Calls Tryz.prog 3 #[nzA k a s n A la cA B lb cB] w _
  have hok := okz_of hn hb
  have hlen : pa 300 3000 z ≤ 3000 → (prT dec z).length ≤ 1099511627776 := fun h => by
    have h1 := len_pr z hn hb
    have h2 := ((small_iff z 300 3000).1 h).1
    have h3 := Nat.mul_le_mul_left 8388608 h2
    omega
  obtain ⟨w1, hw1, hb1, hX1⟩ := a_box w (nB k a s n A la cA B lb cB)
  obtain ⟨⟨e0, e1, e2, e3, e4, e5⟩, z0, z1, z2, z3, z4, z5⟩ := Blk.c6 hX1
  have hxl := hX1.lt
  have HTZ := Lib.hid fun w2 (hb : Below w.heap.size w w2) => TIz.below hb hT
  have HSM := Lib.hid (small z w1 k a s n A la cA B lb cB (HTZ.out w1 hb1))
  have HLI := Lib.hid fun w2 (hb : Below w.heap.size w w2) => lives w2 (tab_below hTB hb)
  have HPE := Lib.hid fun w2 (hb : Below w.heap.size w w2) => pProgram z hok w2 (tab_below hTB hb) k a s n A la cA B lb cB (TIz.below hb hTc)
  have HRE := Lib.hid fun (hp : pa 300 3000 z ≤ 3000) w2 (hb : Below w.heap.size w w2) => rProgram z hok (hlen hp) w2 k a s n A la cA B lb cB (HTZ.out w2 hb)
  have HW := Lib.hid hw1; have HB1 := Lib.hid hb1; have HX1 := Lib.hid hX1
  obtain ⟨sm, hsm⟩ : ∃ sm, decide (pa 300 3000 z ≤ 3000) = sm := ⟨_, rfl⟩
  rw [hsm] at HSM
  have HSQ := Lib.hid hsm
  clear hT hTc hTB hok hlen hn hb hw1 hb1 hX1 hsm
  go_enter Tryz.func3, Tryz.ntmps3
  go_wp2_with fail
  rw [HW.out]
  refine (show Calls Tryz.prog 6 #[nzA k a s n A la cA B lb cB] w1 _ from HSM.out).mono ?_
  rintro e w2 ⟨rfl, hb2⟩
  have hx2 := HX1.out.below hb2 hxl
  clear e0 e1 e2 e3 e4 e5 z0 z1 z2 z3 z4 z5
  obtain ⟨⟨e0, e1, e2, e3, e4, e5⟩, z0, z1, z2, z3, z4, z5⟩ := Blk.c6 hx2
  have hxl2 := hx2.lt
  have HX2 := Lib.hid hx2; have HB2 := Lib.hid (HB1.out.trans (hb2.mono HB1.out.size))
  clear hx2 hb2 HSM
  cases sm with
  | false =>
    have HL := Lib.hid (HLI.out w2 HB2.out)
    go_wp2_with fail
    refine HL.out.mono ?_
    rintro e w3 ⟨rfl, hb3⟩
    have HB3 := Lib.hid (HB2.out.trans (hb3.mono HB2.out.size))
    clear hb3
    go_wp2_with fail
    go_ret
    exact ⟨rfl, HB3.out⟩
  | true =>
    have HSM := Lib.hid (of_decide_eq_true HSQ.out)
    have HP := Lib.hid (HPE.out w2 HB2.out)
    go_wp2_with fail
    refine (show Calls Tryz.prog 8 #[nzA k a s n A la cA B lb cB] w2 _ from HP.out).mono ?_
    rintro e w3 ⟨hTD, hb3⟩
    have hx3 := HX2.out.below hb3 hxl2
    have HB3 := Lib.hid (HB2.out.trans (hb3.mono HB2.out.size))
    have HAG := Lib.hid fun e' h => agree (fun _ h => made_P' h) (fun h => shP_ls h) hTD h HSM.out (e' := e')
    have hres : ∃ u v, e = .returned (.tuple #[.string u, .int .i64 v]) := by
      obtain ⟨r, _, ⟨_, h⟩ | ⟨_, h⟩⟩ := hTD
      · exact told_res h
      · exact ⟨_, _, h⟩
    obtain ⟨u, v, rfl⟩ := hres
    clear e0 e1 e2 e3 e4 e5 z0 z1 z2 z3 z4 z5
    obtain ⟨⟨e0, e1, e2, e3, e4, e5⟩, z0, z1, z2, z3, z4, z5⟩ := Blk.c6 hx3
    have hxl3 := hx3.lt
    have HX3 := Lib.hid hx3
    have HR := Lib.hid (HRE.out HSM.out w3 HB3.out)
    clear hTD hb3 hx3 HP
    go_wp2_with fail
    refine (show Calls Tryz.prog 9 #[nzA k a s n A la cA B lb cB] w3 _ from HR.out).mono ?_
    rintro e w4 ⟨hRT, hb4⟩
    have hee : Ending.returned (.tuple #[.string u, .int .i64 v]) = e := by
      rcases hRT with ⟨_, h⟩ | ⟨h, _⟩
      · exact HAG.out e h
      · exact absurd HSM.out h
    subst hee
    have HB4 := Lib.hid (HB3.out.trans (hb4.mono HB3.out.size))
    have HL := Lib.hid (HLI.out w4 HB4.out)
    have hs2 : (v == v) = true := beq_self_eq_true v
    clear hRT hb4 HR HAG
    go_wp2_with fail
    refine HL.out.mono ?_
    rintro e w5 ⟨rfl, hb5⟩
    have HB5 := Lib.hid (HB4.out.trans (hb5.mono HB4.out.size))
    clear hb5
    go_wp2_with fail
    go_ret
    exact ⟨rfl, HB5.out⟩
end Go.Proofs.YtokfmclbninkmaaGreatDoor.Sw
