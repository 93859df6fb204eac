/- DERIVED. The walk of MemWords. By an AI agent. -/
import Derived.Test.YtldfnjjgacieoaaMmOwn
import Derived.Deep.DeepCutAuto
namespace Go.Proofs.Ytldfnjjgacieoaa.Mm
open Go.ChangeShapes Go.WideShapes Go.ChangeAt Go.RowKit Args
set_option linter.unusedVariables false
theorem pow_le14 (w : Nat) (hw : w ≤ 14) : 2 ^ w ≤ 16384 := Nat.le_trans (Nat.pow_le_pow_right (by decide) hw) (by decide)
theorem and_mask14 (n : Int) (w : Nat) (hw : w ≤ 14) : bits .and .i64 n ((2 ^ w - 1 : Nat) : Int) = n % ((2 ^ w : Nat) : Int) := by
  have hp := pow_le14 w hw
  have hp0 : 0 < 2 ^ w := Nat.two_pow_pos w
  have e : (BitVec.ofInt 64 n &&& BitVec.ofInt 64 ((2 ^ w - 1 : Nat) : Int)).toNat = (n % ((2 ^ w : Nat) : Int)).toNat := by
    rw [BitVec.toNat_and, BitVec.toNat_ofInt, BitVec.toNat_ofInt]
    have h2 : (((2 ^ w - 1 : Nat) : Int) % ((2 ^ 64 : Nat) : Int)).toNat = 2 ^ w - 1 := by
      rw [Int.emod_eq_of_lt (by omega) (by omega)]; omega
    rw [h2, Nat.and_two_pow_sub_one_eq_mod]
    have hd : ((2 ^ w : Nat) : Int) ∣ ((2 ^ 64 : Nat) : Int) := Int.natCast_dvd_natCast.2 (Nat.pow_dvd_pow 2 (by omega))
    have h3 : (n % ((2 ^ 64 : Nat) : Int)) % ((2 ^ w : Nat) : Int) = n % ((2 ^ w : Nat) : Int) := Int.emod_emod_of_dvd n hd
    rw [← h3]
    have h0 : 0 ≤ n % ((2 ^ 64 : Nat) : Int) := Int.emod_nonneg _ (by decide)
    generalize n % ((2 ^ 64 : Nat) : Int) = m at h0
    obtain ⟨k, rfl⟩ := Int.eq_ofNat_of_zero_le h0
    rw [← Int.natCast_emod, Int.toNat_natCast, Int.toNat_natCast]
  show IntKind.i64.wrap ((BitVec.ofInt 64 n &&& BitVec.ofInt 64 ((2 ^ w - 1 : Nat) : Int)).toNat : Int) = _
  rw [e]
  have h0 : 0 ≤ n % ((2 ^ w : Nat) : Int) := Int.emod_nonneg _ (by omega)
  have h1 : n % ((2 ^ w : Nat) : Int) < ((2 ^ w : Nat) : Int) := Int.emod_lt_of_pos _ (by omega)
  rw [IntWalk.i64_in _ (by omega)]
  omega
theorem and14 (n : Int) : bits .and .i64 n 16383 = n % 16384 := and_mask14 n 14 (Nat.le_refl _)
theorem loadS_d (s : St) (a : Int) (h : a ≠ 1073741824) : (loadS s a).d = s.d := by
  unfold loadS
  split <;> first | rfl | exact if_neg h
theorem look_word (s : St) (j : Nat) (hj : j < 16384) : lookV s (536870912 + 4 * (j : Int)) = if j < s.W.length then (s.W.getD j 0, 0) else lookV { s with W := [] } (536870912 + 4 * (j : Int)) := by
  have e1 : far (536870912 + 4 * (j : Int)) 536870912 = 4 * (j : Int) := by unfold far; omega
  have e2 : plcB (536870912 + 4 * (j : Int)) 536870912 4 s.W.length = decide (j < s.W.length) := by
    unfold plcB; rw [e1, Bool.eq_iff_iff]; simp <;> omega
  have e3 : plcB (536870912 + 4 * (j : Int)) 536870912 4 0 = false := by
    unfold plcB; rw [e1]; simp <;> omega
  have e5 : (536870912 + 4 * (j : Int) = 1073741824) = False := by simp; omega
  by_cases h : j < s.W.length
  · rw [if_pos h]
    simp [lookV, e5, e2, h, e1]
  · rw [if_neg h]
    simp [lookV, e5, e2, e3, h]
theorem look_none (j : Nat) (hj : j < 16384) (d : Nat) (b : Int) : lookV ⟨[], [], [], d, b⟩ (536870912 + 4 * (j : Int)) = (0, 50) := by
  have e1 : plcB (536870912 + 4 * (j : Int)) 536870912 4 0 = false := by
    have := far_lo (536870912 + 4 * (j : Int)) 536870912
    unfold plcB; simp <;> omega
  have e2 : plcB (536870912 + 4 * (j : Int)) 0 4 0 = false := by
    have := far_lo (536870912 + 4 * (j : Int)) 0
    unfold plcB; simp <;> omega
  unfold lookV
  rw [if_neg (by omega)]
  simp [e1, e2]
end Go.Proofs.Ytldfnjjgacieoaa.Mm
namespace Go.Proofs.Ytldfnjjgacieoaa.memWords
open Go.ChangeShapes Go.WideShapes Go.ChangeAt Go.RowKit Args Mm
set_option linter.unusedVariables false
set_option maxRecDepth 100000 in
set_option maxHeartbeats 8000000 in
theorem main_ (W : World) (z y : Int) (n : Nat) (h1 : z < 0 ∧ y = 0 ∨ 0 ≤ z ∧ y = z) (h2 : 16000 < y ∧ n = 16000 ∨ y = n ∧ n ≤ 16000) (i : Int) (hi : (Lit.int .i64 i).wf = true) (u : Int) (hu : 0 ≤ u ∧ u < 4294967296) :
    Calls Try.prog 4 #[.int .i64 z, .int .i64 i, .int .u32 u] W fun e w' => e = .returned (.bool true) ∧ Below W.heap.size W w' := by
  have n1 : n ≤ 16000 := by omega
  have hf : Fit ⟨[], noughts n, [], 0, 0⟩ := ⟨nofun, noughts_in n, nofun, Nat.le_refl _, ⟨Int.le_refl 0, by show (0 : Int) < 4294967296; decide⟩, by show 0 ≤ _; omega, by show (noughts n).length ≤ 16000; rw [noughts_len]; exact n1, by show 0 ≤ _; omega⟩
  have hnw := fun w => new_any none 0 [] z (if (16000 : Int) < z then 16000 else z) n rfl (by split <;> split <;> omega) none 0 [] w (Lies.nil _ _) (Lies.nil _ _) (Nat.le_refl _) (by decide) hf (by decide)
  obtain ⟨j, hj, hj2⟩ : ∃ j : Nat, i % 16384 = j ∧ j < 16384 := ⟨(i % 16384).toNat, by omega, by omega⟩
  have ha := and14 i
  rw [hj] at ha
  have HA := Lib.hid ha; have HJ := Lib.hid hj; have HJ2 := Lib.hid hj2
  have HN := Lib.hid hnw; have H1 := Lib.hid h1; have H2 := Lib.hid h2; have HN1 := Lib.hid n1
  clear hnw h1 h2 n1 hf hi ha hj hj2
  go_enter Try.func4, Try.ntmps4
  go_upto_if 22 with (go_at_call 9; refine (HN.out _).mono ?_; rintro e w2 ⟨h, rfl, hp, hx⟩; have HX2 := Lib.hid hx; have HP := Lib.hid hp; have HLOW := Lib.hid (show ∀ k, h.X k → W.heap.size ≤ k from hp.X_low); clear hx hp HN)
  go_cut [8] (fun v wx => v = .int .i64 y ∧ w2 = wx)
  case first =>
    rcases H1.out with ⟨hz, hy⟩ | ⟨hz, hy⟩
    · have HY := Lib.hid hy
      clear hy
      go_wp2_with fail
      go_meet
      exact ⟨by rw [HY.out], rfl⟩
    · have HY := Lib.hid hy
      clear hy
      go_wp2_with fail
      go_meet
      exact ⟨by rw [HY.out], rfl⟩
  case rest =>
    obtain ⟨rfl, rfl⟩ := hcut
    go_upto_if 24 with fail
    go_cut [8] (fun v wx => v = .int .i64 n ∧ w2 = wx)
    case first =>
      rcases H2.out with ⟨hz, hy⟩ | ⟨hz, hy⟩
      · have HY := Lib.hid hy
        clear hy
        go_wp2_with fail
        go_meet
        exact ⟨by rw [HY.out]; rfl, rfl⟩
      · have hy2 : y ≤ 16000 := by omega
        have HY := Lib.hid hz
        clear hy hz
        go_wp2_with fail
        go_meet
        exact ⟨by rw [HY.out], rfl⟩
    case rest =>
      obtain ⟨rfl, rfl⟩ := hcut
      go_wp2_with fail
      refine (Mm.words _ h _ _ HP.out).mono ?_
      rintro e w3 ⟨A5, c5, rfl, ho5, hx5⟩
      have hp3 := PM.below HP.out hx5
      have HC := Lib.hid (show ∀ g, A5 = some ⟨g, 0, none⟩ → ∀ k, k < n → w3.cell? ⟨g, k, none⟩ = some (.int .u32 0) from fun g hg k hk => by
        subst hg
        have h1 := own_cell ho5 (i := k) (by show k < (noughts n).length; rw [noughts_len]; exact hk)
        rw [h1]
        show some (Value.int .u32 ((noughts n).getD k 0)) = _
        simp [noughts, List.getD, hk])
      have HG := Lib.hid (show ∀ k, k < n → ∃ g, A5 = some ⟨g, 0, none⟩ from fun k hk => by
        rcases own_form ho5 with ⟨_, h0, _⟩ | ⟨g, h1, _⟩
        · have : (noughts n).length = 0 := h0
          rw [noughts_len] at this
          omega
        · exact ⟨g, h1⟩)
      have HP3 := Lib.hid hp3; have HB3 := Lib.hid (show Below W.heap.size W w3 from Ext.trans HX2.out hx5)
      rw [show (St.mk [] (noughts n) [] 0 0).W.length = n from noughts_len n]
      clear ho5 hx5 hp3 HP HX2
      have hn1 : (n : Int) ≤ 16000 := by have := HN1.out; omega
      go_wp2_with fail
      go_loop [10] (fun vi => ∃ k : Nat, k ≤ n ∧ vi = .int .i64 k) (fun vi => n - (intOf vi).toNat)
      case atStart => exact ⟨0, by omega, rfl⟩
      case round =>
        obtain ⟨k, hk, rfl⟩ := hrel
        by_cases hlt : k < n
        · obtain ⟨g, rfl⟩ := HG.out k hlt
          have hc := HC.out g rfl k hlt
          go_wp2_with fail
          go_round
          case rel => exact ⟨k + 1, by omega, by go_num⟩
          case measure => simp [intOf]; omega
        · have hkn : k = n := by omega
          clear hk hlt
          subst hkn
          by_cases hin : 0 ≤ i ∧ i < (k : Int)
          · obtain ⟨m, rfl⟩ := Int.eq_ofNat_of_zero_le hin.1
            have hmk : m < k := by omega
            have hjm : j = m := by have := HJ.out; have := HN1.out; omega
            subst hjm
            have hdec : decide ((0 : Int) ≤ (j : Int) ∧ (j : Int) < ((St.mk [] (noughts k) [] 0 0).W.length : Int)) = true := decide_eq_true ⟨by omega, by show (j : Int) < ((noughts k).length : Int); rw [noughts_len]; omega⟩
            have hset : setS ⟨[], noughts k, [], 0, 0⟩ (j : Int) u = ⟨[], (noughts k).set j u, [], 0, 0⟩ := by
              unfold setS
              rw [if_pos ⟨by omega, by show (j : Int) < ((noughts k).length : Int); rw [noughts_len]; omega⟩]
              rfl
            have hgd : ((noughts k).set j u).getD j 0 = u := by simp [List.getD, noughts, hmk]
            have hwd : wordV ⟨[], (noughts k).set j u, [], 0, 0⟩ (j : Int) = .tuple #[.int .u32 u, .bool true] := by
              unfold wordV
              rw [if_pos ⟨by omega, by show (j : Int) < (((noughts k).set j u).length : Int); rw [List.length_set, noughts_len]; omega⟩]
              show Value.tuple #[.int .u32 (((noughts k).set j u).getD j 0), _] = _
              rw [hgd]
            have hlk : lookV ⟨[], (noughts k).set j u, [], 0, 0⟩ (536870912 + 4 * (j : Int)) = (u, 0) := by
              rw [look_word _ j HJ2.out, if_pos (show j < ((noughts k).set j u).length by rw [List.length_set, noughts_len]; exact hmk)]
              show (((noughts k).set j u).getD j 0, (0 : Int)) = _
              rw [hgd]
            have hld : (((loadS ⟨[], (noughts k).set j u, [], 0, 0⟩ (536870912 + 4 * (j : Int))).d : Nat) : Int) = 0 := by
              rw [loadS_d _ _ (by have := HJ2.out; omega)]
              rfl
            have HD := Lib.hid hdec; have HS := Lib.hid hset; have HW := Lib.hid hwd; have HLK := Lib.hid hlk; have LD := Lib.hid hld; have HMK := Lib.hid hmk
            have q1 : (j : Int) < 16384 := by have := HJ2.out; omega
            have q2 : (j : Int) < 16000 := by omega
            have q3 : (j : Int) < (k : Int) := by omega
            clear hdec hset hgd hwd hlk hld hin hmk
            have ha := HA.out
            go_wp2_with fail
            refine (Mm.set _ h _ _ _ u hu HP3.out).mono ?_
            rintro e w4 ⟨rfl, hp4, hu4⟩
            rw [HD.out]
            rw [HS.out] at hp4
            have HP4 := Lib.hid hp4; have HB4 := Lib.hid (below_upd HB3.out hu4 HLOW.out)
            clear hp4 hu4
            go_wp2_with fail
            refine (Mm.word _ h _ _ _ HP4.out).mono ?_
            rintro e w5 ⟨rfl, n5, rfl⟩
            rw [HW.out]
            have HP5 := Lib.hid (HP4.out.drewN n5); have HB5 := Lib.hid (below_upd HB4.out (upd_drewN h.X _ n5) HLOW.out)
            clear HP4 HB4
            generalize w4.drewN n5 = w5 at *
            go_wp2_with fail
            refine (Mm.load _ h _ _ _ HP5.out).mono ?_
            rintro e w6 ⟨rfl, hp6, hu6⟩
            rw [HLK.out]
            have HP6 := Lib.hid hp6; have HB6 := Lib.hid (below_upd HB5.out hu6 HLOW.out)
            clear hp6 hu6
            go_wp2_with fail
            refine (Mm.drawn _ h _ _ HP6.out).mono ?_
            rintro e w8 ⟨rfl, rfl⟩
            rw [LD.out]
            go_wp2_with fail
            refine (Mm.lives _).mono ?_
            rintro e w9 ⟨rfl, hb9⟩
            have HB9 := Lib.hid (HB6.out.trans (hb9.mono HB6.out.size))
            clear hb9
            go_wp2_with fail
            go_ret
            exact ⟨rfl, HB9.out⟩
          · have hdec : decide ((0 : Int) ≤ i ∧ i < ((St.mk [] (noughts k) [] 0 0).W.length : Int)) = false := decide_eq_false fun hh => hin ⟨hh.1, by have := hh.2; simp only [noughts_len] at this; exact this⟩
            have hset : setS ⟨[], noughts k, [], 0, 0⟩ i u = ⟨[], noughts k, [], 0, 0⟩ := by
              unfold setS
              rw [if_neg fun hh => hin ⟨hh.1, by have := hh.2; simp only [noughts_len] at this; exact this⟩]
            have hwd : wordV ⟨[], noughts k, [], 0, 0⟩ i = .tuple #[.int .u32 0, .bool false] := by
              unfold wordV
              rw [if_neg fun hh => hin ⟨hh.1, by have := hh.2; simp only [noughts_len] at this; exact this⟩]
            have hld : (((loadS ⟨[], noughts k, [], 0, 0⟩ (536870912 + 4 * (j : Int))).d : Nat) : Int) = 0 := by
              rw [loadS_d _ _ (by have := HJ2.out; omega)]
              rfl
            have HD := Lib.hid hdec; have HS := Lib.hid hset; have HW := Lib.hid hwd; have LD := Lib.hid hld
            have q1 : (j : Int) < 16384 := by have := HJ2.out; omega
            have hcase : i < 0 ∨ 16000 < i ∨ ((k : Int) ≤ i ∧ 0 ≤ i ∧ i ≤ 16000) := by omega
            clear hdec hset hwd hld hin
            have ha := HA.out
            rcases hcase with hc | hc | ⟨hc, hc0, hc2⟩
            · have p1 : decide ((0 : Int) ≤ i) = false := by simp; omega
              go_wp2_with fail
              refine (Mm.set _ h _ _ _ u hu HP3.out).mono ?_
              rintro e w4 ⟨rfl, hp4, hu4⟩
              rw [HD.out]
              rw [HS.out] at hp4
              have HP4 := Lib.hid hp4; have HB4 := Lib.hid (below_upd HB3.out hu4 HLOW.out)
              clear hp4 hu4
              go_wp2_with fail
              refine (Mm.word _ h _ _ _ HP4.out).mono ?_
              rintro e w5 ⟨rfl, n5, rfl⟩
              rw [HW.out]
              have HP5 := Lib.hid (HP4.out.drewN n5); have HB5 := Lib.hid (below_upd HB4.out (upd_drewN h.X _ n5) HLOW.out)
              clear HP4 HB4
              generalize w4.drewN n5 = w5 at *
              go_wp2_with fail
              refine (Mm.load _ h _ _ _ HP5.out).mono ?_
              rintro e w6 ⟨rfl, hp6, hu6⟩
              generalize (lookV _ _).1 = y1
              generalize (lookV _ _).2 = y2
              have HP6 := Lib.hid hp6; have HB6 := Lib.hid (below_upd HB5.out hu6 HLOW.out)
              clear hp6 hu6
              go_wp2_with fail
              refine (Mm.drawn _ h _ _ HP6.out).mono ?_
              rintro e w8 ⟨rfl, rfl⟩
              rw [LD.out]
              go_wp2_with fail
              refine (Mm.lives _).mono ?_
              rintro e w9 ⟨rfl, hb9⟩
              have HB9 := Lib.hid (HB6.out.trans (hb9.mono HB6.out.size))
              clear hb9
              go_wp2_with fail
              go_ret
              exact ⟨rfl, HB9.out⟩
            · have p0 : 0 ≤ i := by omega
              have p1 : decide (i < (k : Int)) = false := by simp; omega
              go_wp2_with fail
              refine (Mm.set _ h _ _ _ u hu HP3.out).mono ?_
              rintro e w4 ⟨rfl, hp4, hu4⟩
              rw [HD.out]
              rw [HS.out] at hp4
              have HP4 := Lib.hid hp4; have HB4 := Lib.hid (below_upd HB3.out hu4 HLOW.out)
              clear hp4 hu4
              go_wp2_with fail
              refine (Mm.word _ h _ _ _ HP4.out).mono ?_
              rintro e w5 ⟨rfl, n5, rfl⟩
              rw [HW.out]
              have HP5 := Lib.hid (HP4.out.drewN n5); have HB5 := Lib.hid (below_upd HB4.out (upd_drewN h.X _ n5) HLOW.out)
              clear HP4 HB4
              generalize w4.drewN n5 = w5 at *
              go_wp2_with fail
              refine (Mm.load _ h _ _ _ HP5.out).mono ?_
              rintro e w6 ⟨rfl, hp6, hu6⟩
              generalize (lookV _ _).1 = y1
              generalize (lookV _ _).2 = y2
              have HP6 := Lib.hid hp6; have HB6 := Lib.hid (below_upd HB5.out hu6 HLOW.out)
              clear hp6 hu6
              go_wp2_with fail
              refine (Mm.drawn _ h _ _ HP6.out).mono ?_
              rintro e w8 ⟨rfl, rfl⟩
              rw [LD.out]
              go_wp2_with fail
              refine (Mm.lives _).mono ?_
              rintro e w9 ⟨rfl, hb9⟩
              have HB9 := Lib.hid (HB6.out.trans (hb9.mono HB6.out.size))
              clear hb9
              go_wp2_with fail
              go_ret
              exact ⟨rfl, HB9.out⟩
            · have p1 : decide (i < (k : Int)) = false := by simp; omega
              have hji : i = (j : Int) := by have := HJ.out; omega
              have hlk : lookV ⟨[], noughts k, [], 0, 0⟩ (536870912 + 4 * (j : Int)) = (0, 50) := by
                rw [look_word _ j HJ2.out, if_neg (show ¬ j < (noughts k).length by rw [noughts_len]; omega)]
                exact look_none j HJ2.out 0 0
              have HLK := Lib.hid hlk
              clear hji hlk
              go_wp2_with fail
              refine (Mm.set _ h _ _ _ u hu HP3.out).mono ?_
              rintro e w4 ⟨rfl, hp4, hu4⟩
              rw [HD.out]
              rw [HS.out] at hp4
              have HP4 := Lib.hid hp4; have HB4 := Lib.hid (below_upd HB3.out hu4 HLOW.out)
              clear hp4 hu4
              go_wp2_with fail
              refine (Mm.word _ h _ _ _ HP4.out).mono ?_
              rintro e w5 ⟨rfl, n5, rfl⟩
              rw [HW.out]
              have HP5 := Lib.hid (HP4.out.drewN n5); have HB5 := Lib.hid (below_upd HB4.out (upd_drewN h.X _ n5) HLOW.out)
              clear HP4 HB4
              generalize w4.drewN n5 = w5 at *
              go_wp2_with fail
              refine (Mm.load _ h _ _ _ HP5.out).mono ?_
              rintro e w6 ⟨rfl, hp6, hu6⟩
              rw [HLK.out]
              have HP6 := Lib.hid hp6; have HB6 := Lib.hid (below_upd HB5.out hu6 HLOW.out)
              clear hp6 hu6
              go_wp2_with fail
              refine (Mm.drawn _ h _ _ HP6.out).mono ?_
              rintro e w8 ⟨rfl, rfl⟩
              rw [LD.out]
              go_wp2_with fail
              refine (Mm.lives _).mono ?_
              rintro e w9 ⟨rfl, hb9⟩
              have HB9 := Lib.hid (HB6.out.trans (hb9.mono HB6.out.size))
              clear hb9
              go_wp2_with fail
              go_ret
              exact ⟨rfl, HB9.out⟩
end Go.Proofs.Ytldfnjjgacieoaa.memWords
