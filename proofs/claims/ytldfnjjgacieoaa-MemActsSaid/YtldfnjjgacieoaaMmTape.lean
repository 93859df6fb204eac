/- DERIVED. The walk of MemTape. By an AI agent. -/
import Derived.Test.YtldfnjjgacieoaaMmFlash
namespace Go.Proofs.Ytldfnjjgacieoaa.Mm
open Go.ChangeShapes Go.WideShapes Go.ChangeAt Go.RowKit Args
set_option linter.unusedVariables false
def tp (T : List Int) (k : Nat) (b : Int) : St := ⟨[], noughts 1, T, k, b⟩
theorem port_yes (T : List Int) (k : Nat) (b : Int) (h : k < T.length) : lookV (tp T k b) 1073741824 = (T.getD k 0, 0) ∧ loadS (tp T k b) 1073741824 = tp T (k + 1) (T.getD k 0) := by
  have e : lookV (tp T k b) 1073741824 = (T.getD k 0, 0) := by
    unfold lookV
    rw [if_pos rfl]
    exact if_pos h
  refine ⟨e, ?_⟩
  unfold loadS
  rw [e, if_pos rfl, if_pos rfl]
  rfl
theorem port_no (T : List Int) (k : Nat) (b : Int) (h : T.length ≤ k) : lookV (tp T k b) 1073741824 = (0, 51) ∧ loadS (tp T k b) 1073741824 = tp T k b := by
  have e : lookV (tp T k b) 1073741824 = (0, 51) := by
    unfold lookV
    rw [if_pos rfl]
    exact if_neg (Nat.not_lt.2 h)
  refine ⟨e, ?_⟩
  unfold loadS
  rw [e, if_neg (by decide)]
end Go.Proofs.Ytldfnjjgacieoaa.Mm
namespace Go.Proofs.Ytldfnjjgacieoaa.memTape
open Go.ChangeShapes Go.WideShapes Go.ChangeAt Go.RowKit Args Mm
set_option linter.unusedVariables false
set_option maxRecDepth 100000 in
set_option maxHeartbeats 4000000 in
theorem walk (W : World) (v : Value) (zs : List Int) (hv : Ints .u32 4 W v zs) (a : Int) (ha : (Lit.int .u8 a).wf = true) :
    Calls Try.prog 5 #[v, .int .u8 a] W fun e w' => e = .returned (.bool true) ∧ Below W.heap.size W w' := by
  obtain ⟨A, cap, rfl, hlc, hcm, hL⟩ := hv.ex
  have ha2 := ha
  simp [Lit.wf] at ha2
  have u1 : IntKind.u8.min = 0 := rfl
  have u2 : IntKind.u8.max = 255 := rfl
  obtain ⟨mm, rfl⟩ := Int.eq_ofNat_of_zero_le (show 0 ≤ a by omega)
  have hmm : mm < 256 := by omega
  obtain ⟨r, hr, hr4⟩ : ∃ r : Nat, ((mm : Int) % 4) = r ∧ r < 4 := ⟨mm % 4, by omega, by omega⟩
  have hsh := short_w none 0 [] A cap zs W (Lies.nil _ _) hL (Nat.le_refl _) (by decide) hlc hcm
  have hnil : ([] : List Int).take 300 = [] := rfl
  rw [hnil] at hsh
  have hf : Fit ⟨[], noughts 1, zs.take 100, 0, 0⟩ := fit_take (zs := []) 1 nofun hv.wf (by decide)
  have htl : (zs.take 100).length ≤ 100 := by rw [List.length_take]; omega
  generalize zs.take 100 = T at hsh hf htl
  have hnw := fun A3 c3 w h => new_c none 0 [] 1 A3 c3 T w (Lies.nil _ _) h (Nat.le_refl _) (by decide) hf (by omega)
  obtain ⟨j0, hj, hy0, hy1, hy2⟩ := info_parts info32
  have HJ := Lib.hid hj; have HY0 := Lib.hid hy0; have HY1 := Lib.hid hy1; have HY2 := Lib.hid hy2
  have HS := Lib.hid hsh; have HN := Lib.hid hnw; have HF := Lib.hid hf; have HTL := Lib.hid htl
  clear hsh hnw hL hv ha ha2 hlc hcm hf hnil u1 u2 hj hy0 hy1 hy2
  go_enter Try.func5, Try.ntmps5
  go_wp2_with fail
  refine HS.out.mono ?_
  rintro e w1 ⟨A1, c1, A3, c3, rfl, _, _, _, _, _, ho3, _, hx⟩
  have HX := Lib.hid hx; have HO := Lib.hid ho3
  have HL2 := Lib.hid ((lies_own ho3).below ((Below.refl w1.heap.size w1).alloc (Nat.le_refl _) (.cells #[] 31)))
  clear hx ho3 HS
  go_wp2_with (at_builtin; refine wpList_fresh rfl (.tmp 14) (.tmp 15) 23 rfl w1.heap.size 31 j0 (.int .u32 0) 1 4 Try.underlying23 HJ.out HY0.out HY1.out HY2.out rfl (by decide) _ 0 [] rfl (own_empty w1 (Nat.le_refl _) _ _) A3 T.length c3 (T.map (.int .u32)) rfl (by simp) HL2.out (ints_one _ _) (by have := HTL.out; unfold maxLen; omega) (by have := HTL.out; omega) (by simp) ?_; intro A4 c4 w2 h1 h2 h3 h4; simp only [Nat.zero_add, List.nil_append] at h1 h3; have HO4 := Lib.hid h3; have HB2 := Lib.hid (fresh_ext h4); clear h1 h2 h3 h4; rw [Nat.zero_add])
  refine (HN.out _ _ _ (lies_own HO4.out)).mono ?_
  rintro e w3 ⟨h, rfl, hp, hx⟩
  have hlow : ∀ k, h.X k → w2.heap.size ≤ k := hp.X_low
  have HX3 := Lib.hid ((HX.out.trans HB2.out).trans hx); have HP := Lib.hid (show PP w2.heap.size h (tp T 0 0) w3 from hp)
  have HLOW := Lib.hid (show ∀ k, h.X k → W.heap.size ≤ k from fun k hk => Nat.le_trans (HX.out.trans HB2.out).size (hlow k hk))
  have HO3 := Lib.hid (Ext.own (HB2.out.trans hx) HO.out)
  have HNX := Lib.hid (show ∀ k, A3 = some ⟨k, 0, none⟩ → ¬ h.X k from fun k hk hX => by
    have h1 := hlow k hX
    rcases own_form HO.out with ⟨e, _⟩ | ⟨g, e, _, hg⟩
    · rw [e] at hk; cases hk
    · rw [e] at hk; cases hk
      have := HB2.out.size; omega)
  clear hx hp HO HN HX HB2 HL2 HO4 hlow
  go_wp2_with fail
  have hrr : (T.length : Int) + (r : Int) < 1000 := by have := HTL.out; omega
  have HMM := Lib.hid hmm; have HR4 := Lib.hid hr4
  clear hmm hr4
  go_loopw [6] (fun vi wr => ∃ (k : Nat) (b : Int), k ≤ T.length + r ∧ vi = .int .i64 k ∧ Hid (PP w2.heap.size h (tp T (min k T.length) b) wr ∧ Upd h.X w3 wr)) (fun vi _ => T.length + r - (intOf vi).toNat)
  case atStart => exact ⟨0, 0, by omega, rfl, Lib.hid ⟨by rw [Nat.zero_min]; exact HP.out, Upd.refl _ _⟩⟩
  case round =>
    obtain ⟨k, b, hk, rfl, HH⟩ := hrel
    have hkk : (k : Int) < 1001 := by omega
    by_cases hlt : k < T.length + r
    · by_cases hkt : k < T.length
      · have hm : min k T.length = k := by omega
        have hp := HH.out.1
        rw [hm] at hp
        obtain ⟨y1, y2⟩ := port_yes T k b hkt
        rcases own_form (own_upd HO3.out HH.out.2 HNX.out) with ⟨_, h0, _⟩ | ⟨g, rfl, _, _⟩
        · omega
        have hcell : ∀ w', Upd h.X w3 w' → w'.cell? ⟨g, k, none⟩ = some (.int .u32 (T.getD k 0)) := fun w' hu => by
          have ho := own_upd HO3.out hu HNX.out
          rw [ho.cellAt k (by omega), List.getElem?_map, List.getElem?_eq_getElem hkt]
          simp [List.getD, List.getElem?_eq_getElem hkt]
        generalize T.getD k 0 = z at y1 y2 hcell
        have Y1 := Lib.hid y1; have Y2 := Lib.hid y2; have HC := Lib.hid hcell; have HP1 := Lib.hid hp; have HU1 := Lib.hid HH.out.2
        have ld : (((tp T (k + 1) z).d : Nat) : Int) = (k : Int) + 1 := by show ((k + 1 : Nat) : Int) = _; omega
        have LD := Lib.hid ld; have HLT := Lib.hid hlt
        clear y1 y2 hcell hp HH hm ld hlt
        have hlt2 : (k : Int) < (T.length : Int) + (r : Int) := by have := HLT.out; omega
        go_wp2_with fail
        refine (Mm.load _ h _ _ _ HP1.out).mono ?_
        rintro e w4 ⟨rfl, hp4, hu4⟩
        rw [Y1.out]
        rw [Y2.out] at hp4
        have HP4 := Lib.hid hp4; have HU4 := Lib.hid (HU1.out.trans hu4)
        have hcc := HC.out w4 HU4.out
        clear hp4 hu4 HP1 HU1
        go_wp2_with fail
        refine (Mm.bus _ h _ _ HP4.out).mono ?_
        rintro e w5 ⟨rfl, rfl⟩
        rw [show (tp T (k + 1) z).b = z from rfl]
        go_wp2_with fail
        refine (Mm.drawn _ h _ _ HP4.out).mono ?_
        rintro e w5 ⟨rfl, rfl⟩
        rw [LD.out]
        go_wp2_with fail
        go_roundw
        case rel => exact ⟨k + 1, z, by have := HLT.out; omega, by go_num, Lib.hid ⟨by rw [show min (k + 1) T.length = k + 1 by omega]; exact HP4.out, HU4.out⟩⟩
        case measure => have := HLT.out; simp [intOf]; omega
      · have hm : min k T.length = T.length := by omega
        have hp := HH.out.1
        rw [hm] at hp
        obtain ⟨y1, y2⟩ := port_no T T.length b (Nat.le_refl _)
        have Y1 := Lib.hid y1; have Y2 := Lib.hid y2; have HP1 := Lib.hid hp; have HU1 := Lib.hid HH.out.2
        have HLT := Lib.hid hlt; have HKT := Lib.hid hkt
        have hlt2 : (k : Int) < (T.length : Int) + (r : Int) := by omega
        have hkt2 : decide (k < T.length) = false := by simpa using hkt
        clear y1 y2 hp HH hm hlt hkt
        go_wp2_with fail
        refine (Mm.load _ h _ _ _ HP1.out).mono ?_
        rintro e w4 ⟨rfl, hp4, hu4⟩
        rw [Y1.out]
        rw [Y2.out] at hp4
        have HP4 := Lib.hid hp4; have HU4 := Lib.hid (HU1.out.trans hu4)
        clear hp4 hu4 HP1 HU1
        go_wp2_with fail
        refine (Mm.drawn _ h _ _ HP4.out).mono ?_
        rintro e w5 ⟨rfl, rfl⟩
        rw [show (tp T T.length b).d = T.length from rfl]
        go_wp2_with fail
        go_roundw
        case rel => exact ⟨k + 1, b, by have := HLT.out; omega, by go_num, Lib.hid ⟨by rw [show min (k + 1) T.length = T.length by have := HKT.out; omega]; exact HP4.out, HU4.out⟩⟩
        case measure => have := HLT.out; simp [intOf]; omega
    · have hlt2 : decide ((k : Int) < (T.length : Int) + (r : Int)) = false := by simp; omega
      clear hlt
      go_wp2_with fail
      refine (Mm.lives _).mono ?_
      rintro e w7 ⟨rfl, hb7⟩
      have HB7 := Lib.hid ((back HX3.out HH.out.2 HLOW.out).trans hb7)
      clear hb7
      go_wp2_with fail
      go_ret
      exact ⟨rfl, HB7.out⟩
end Go.Proofs.Ytldfnjjgacieoaa.memTape
