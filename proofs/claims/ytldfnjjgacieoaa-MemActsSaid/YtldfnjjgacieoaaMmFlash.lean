/- DERIVED. The walk of MemFlash. By an AI agent. -/
import Derived.Test.YtldfnjjgacieoaaMmLaw
namespace Go.Proofs.Ytldfnjjgacieoaa.Mm
open Go.ChangeShapes Go.WideShapes Go.ChangeAt Go.RowKit Args
set_option linter.unusedVariables false
theorem look_code {s : St} (hw : s.W = []) (k : Nat) (hk : k < 65536) : lookV s ((k : Int) * 4) = if 2 * k + 1 < s.C.length then (s.C.getD (2 * k) 0 + 65536 * s.C.getD (2 * k + 1) 0, 0) else (0, 50) := by
  have e1 : plcB ((k : Int) * 4) 536870912 4 s.W.length = false := by
    have := far_lo ((k : Int) * 4) 536870912
    rw [hw]; unfold plcB; simp <;> omega
  have e2 : far ((k : Int) * 4) 0 = (k : Int) * 4 := by unfold far; omega
  have e3 : plcB ((k : Int) * 4) 0 4 (s.C.length / 2) = decide (2 * k + 1 < s.C.length) := by
    unfold plcB; rw [e2, Bool.eq_iff_iff]; simp <;> omega
  unfold lookV
  rw [if_neg (by omega), if_neg (by simp [e1]), e3, e2]
  by_cases h : 2 * k + 1 < s.C.length
  · have e4 : ((k : Int) * 4 / 4).toNat = k := by omega
    rw [if_pos h, if_pos (by simpa using h), e4]
  · rw [if_neg h, if_neg (by simpa using h)]
theorem fetch_code (s : St) (a : Int) (i : Nat) (ha : a = 2 * i) (hi : i < 200000) : fetchV s a = if i < s.C.length then (s.C.getD i 0, 0) else (0, 50) := by
  subst ha
  have e2 : far (2 * (i : Int)) 0 = 2 * (i : Int) := by unfold far; omega
  have e3 : plcB (2 * (i : Int)) 0 2 s.C.length = decide (i < s.C.length) := by
    unfold plcB; rw [e2, Bool.eq_iff_iff]; simp <;> omega
  unfold fetchV
  rw [e3, e2]
  by_cases h : i < s.C.length
  · have e4 : (2 * (i : Int) / 2).toNat = i := by omega
    rw [if_pos h, if_pos (by simpa using h), e4]
  · rw [if_neg h, if_neg (by simpa using h)]
theorem wf_u16 {z : Int} (h : (Lit.int .u16 z).wf = true) : 0 ≤ z ∧ z < 65536 := by
  have := h; simp [Lit.wf] at this
  have e1 : IntKind.u16.min = 0 := rfl
  have e2 : IntKind.u16.max = 65535 := rfl
  omega
theorem wf_u32 {z : Int} (h : (Lit.int .u32 z).wf = true) : 0 ≤ z ∧ z < 4294967296 := by
  have := h; simp [Lit.wf] at this
  have e1 : IntKind.u32.min = 0 := rfl
  have e2 : IntKind.u32.max = 4294967295 := rfl
  omega
theorem fit_take {zs T : List Int} (n : Nat) (hz : ∀ z ∈ zs, (Lit.int .u16 z).wf = true) (ht : ∀ z ∈ T, (Lit.int .u32 z).wf = true) (hn : n ≤ 16000) : Fit ⟨zs.take 300, noughts n, T.take 100, 0, 0⟩ :=
  ⟨fun z h => wf_u16 (hz z (List.mem_of_mem_take h)), noughts_in n, fun z h => wf_u32 (ht z (List.mem_of_mem_take h)), Nat.zero_le _, ⟨Int.le_refl 0, by show (0 : Int) < 4294967296; decide⟩, by show (zs.take 300).length ≤ 60000; rw [List.length_take]; omega, by show (noughts n).length ≤ 16000; rw [noughts_len]; exact hn, by show (T.take 100).length ≤ _; rw [List.length_take]; omega⟩
end Go.Proofs.Ytldfnjjgacieoaa.Mm
namespace Go.Proofs.Ytldfnjjgacieoaa.memFlash
open Go.ChangeShapes Go.WideShapes Go.ChangeAt Go.RowKit Args Mm
set_option linter.unusedVariables false
set_option maxRecDepth 100000 in
set_option maxHeartbeats 4000000 in
theorem walk (W : World) (v : Value) (zs : List Int) (hv : Ints .u16 2 W v zs) (a : Int) (ha : (Lit.int .u16 a).wf = true) :
    Calls Try.prog 7 #[v, .int .u16 a] W fun e w' => e = .returned (.bool true) ∧ Below W.heap.size W w' := by
  obtain ⟨A, cap, rfl, hlc, hcm, hL⟩ := hv.ex
  obtain ⟨a0, a1⟩ := wf_u16 ha
  obtain ⟨k, rfl⟩ := Int.eq_ofNat_of_zero_le a0
  have hk : k < 65536 := by omega
  have hsh := short_w A cap zs none 0 [] W hL (Lies.nil _ _) hlc hcm (Nat.le_refl _) (by decide)
  have hnil : ([] : List Int).take 100 = [] := rfl
  rw [hnil] at hsh
  have hf : Fit ⟨zs.take 300, noughts 0, [], 0, 0⟩ := fit_take (T := []) 0 hv.wf nofun (by decide)
  have hf0 := hf
  generalize zs.take 300 = C at hsh hf hf0
  have hnw := fun A c w h1 h2 h3 => new_c A c C 0 none 0 [] w h1 (Lies.nil _ _) h2 h3 hf (by decide)
  have e1 := look_code (s := ⟨C, noughts 0, [], 0, 0⟩) rfl k hk
  have e2 := fun s : St => fetch_code s ((k : Int) * 4) (2 * k) (by omega) (by omega)
  have e3 := fun s : St => fetch_code s ((k : Int) * 4 + 2) (2 * k + 1) (by omega) (by omega)
  have HS := Lib.hid hsh; have HN := Lib.hid hnw; have E1 := Lib.hid e1; have E2 := Lib.hid e2; have E3 := Lib.hid e3
  clear hsh hnw e1 e2 e3 hL hv ha hlc hcm hf hnil
  have l0 := C.length
  have hcl : C.length ≤ 60000 := hf0.cl
  by_cases hlt : 2 * k + 1 < C.length
  · have q1 := E1.out
    rw [if_pos (show 2 * k + 1 < (St.mk C (noughts 0) [] 0 0).C.length from hlt)] at q1
    have q2 := fun s : St => fun hc : s.C = C => (by rw [E2.out s, hc, if_pos (show 2 * k < C.length by omega)] : fetchV s ((k : Int) * 4) = (C.getD (2 * k) 0, 0))
    have q3 := fun s : St => fun hc : s.C = C => (by rw [E3.out s, hc, if_pos hlt] : fetchV s ((k : Int) * 4 + 2) = (C.getD (2 * k + 1) 0, 0))
    have b1 := getD_in hf0.c (i := 2 * k) (by show _ < C.length; omega)
    have b2 := getD_in hf0.c (i := 2 * k + 1) hlt
    have qb : (loadS ⟨C, noughts 0, [], 0, 0⟩ ((k : Int) * 4)).b = C.getD (2 * k) 0 + 65536 * C.getD (2 * k + 1) 0 := by unfold loadS; rw [q1]; rfl
    simp only at q1 b1 b2
    generalize C.getD (2 * k) 0 = x at *
    generalize C.getD (2 * k + 1) 0 = y at *
    have Q1 := Lib.hid q1; have Q2 := Lib.hid q2; have Q3 := Lib.hid q3; have QB := Lib.hid qb
    clear q1 q2 q3 qb hlt E1 E2 E3 hf0
    go_enter Try.func7, Try.ntmps7
    go_wp2_with fail
    refine HS.out.mono ?_
    rintro e w1 ⟨A1, c1, A3, c3, rfl, h1, h2, _, _, ho1, _, _, hx⟩
    have HX := Lib.hid hx; have HO := Lib.hid ho1; have H1 := Lib.hid h1; have H2 := Lib.hid h2
    clear hx ho1 h1 h2 HS
    go_wp2_with fail
    refine (HN.out _ _ _ (lies_own HO.out) H1.out H2.out).mono ?_
    rintro e w2 ⟨h, rfl, hp, hx⟩
    have HX2 := Lib.hid (HX.out.trans hx); have HP := Lib.hid hp
    have HLOW := Lib.hid (show ∀ k, h.X k → W.heap.size ≤ k from fun k hk => Nat.le_trans HX.out.size (hp.X_low k hk))
    clear hx hp HO H1 H2 HN HX
    go_wp2_with fail
    refine (Mm.load _ h _ _ _ HP.out).mono ?_
    rintro e w3 ⟨rfl, hp3, hu3⟩
    have HP3 := Lib.hid hp3; have HU3 := Lib.hid hu3
    rw [Q1.out]
    clear hp3 hu3 HP
    go_wp2_with fail
    refine (Mm.fetch _ h _ _ _ HP3.out).mono ?_
    rintro e w4 ⟨rfl, n4, rfl⟩
    rw [Q2.out _ (loadS_len _ _).1]
    have HP4 := Lib.hid (HP3.out.drewN n4); have HU4 := Lib.hid (HU3.out.trans (upd_drewN h.X _ n4))
    clear HP3 HU3
    generalize w3.drewN n4 = w4 at *
    go_wp2_with fail
    refine (Mm.fetch _ h _ _ _ HP4.out).mono ?_
    rintro e w5 ⟨rfl, n5, rfl⟩
    rw [Q3.out _ (loadS_len _ _).1]
    have HP5 := Lib.hid (HP4.out.drewN n5); have HU5 := Lib.hid (HU4.out.trans (upd_drewN h.X _ n5))
    clear HP4 HU4
    generalize w4.drewN n5 = w5 at *
    go_wp2_with fail
    refine (Mm.bus _ h _ _ HP5.out).mono ?_
    rintro e w6 ⟨rfl, rfl⟩
    rw [QB.out]
    go_wp2_with fail
    refine (Mm.lives _).mono ?_
    rintro e w7 ⟨rfl, hb7⟩
    have HB7 := Lib.hid ((back HX2.out HU5.out HLOW.out).trans hb7)
    clear hb7
    go_wp2_with fail
    go_ret
    exact ⟨rfl, HB7.out⟩
  · have q1 := E1.out
    rw [if_neg (show ¬ 2 * k + 1 < (St.mk C (noughts 0) [] 0 0).C.length from hlt)] at q1
    have q3 := fun s : St => fun hc : s.C = C => (by rw [E3.out s, hc, if_neg hlt] : fetchV s ((k : Int) * 4 + 2) = (0, 50))
    have q2 : ∃ z er, (er = 0 ∨ er = 50) ∧ ∀ s : St, s.C = C → fetchV s ((k : Int) * 4) = (z, er) := by
      by_cases h2 : 2 * k < C.length
      · exact ⟨C.getD (2 * k) 0, 0, .inl rfl, fun s hc => by rw [E2.out s, hc, if_pos h2]⟩
      · exact ⟨0, 50, .inr rfl, fun s hc => by rw [E2.out s, hc, if_neg h2]⟩
    obtain ⟨z, er, her, q2⟩ := q2
    have Q1 := Lib.hid q1; have Q2 := Lib.hid q2; have Q3 := Lib.hid q3
    clear q1 q2 q3 hlt E1 E2 E3 hf0
    rcases her with rfl | rfl
    all_goals
      go_enter Try.func7, Try.ntmps7
      go_wp2_with fail
      refine HS.out.mono ?_
      rintro e w1 ⟨A1, c1, A3, c3, rfl, h1, h2, _, _, ho1, _, _, hx⟩
      have HX := Lib.hid hx; have HO := Lib.hid ho1; have H1 := Lib.hid h1; have H2 := Lib.hid h2
      clear hx ho1 h1 h2 HS
      go_wp2_with fail
      refine (HN.out _ _ _ (lies_own HO.out) H1.out H2.out).mono ?_
      rintro e w2 ⟨h, rfl, hp, hx⟩
      have HX2 := Lib.hid (HX.out.trans hx); have HP := Lib.hid hp
      have HLOW := Lib.hid (show ∀ k, h.X k → W.heap.size ≤ k from fun k hk => Nat.le_trans HX.out.size (hp.X_low k hk))
      clear hx hp HO H1 H2 HN HX
      go_wp2_with fail
      refine (Mm.load _ h _ _ _ HP.out).mono ?_
      rintro e w3 ⟨rfl, hp3, hu3⟩
      have HP3 := Lib.hid hp3; have HU3 := Lib.hid hu3
      rw [Q1.out]
      clear hp3 hu3 HP
      go_wp2_with fail
      refine (Mm.fetch _ h _ _ _ HP3.out).mono ?_
      rintro e w4 ⟨rfl, n4, rfl⟩
      rw [Q2.out _ (loadS_len _ _).1]
      have HP4 := Lib.hid (HP3.out.drewN n4); have HU4 := Lib.hid (HU3.out.trans (upd_drewN h.X _ n4))
      clear HP3 HU3
      generalize w3.drewN n4 = w4 at *
      go_wp2_with fail
      refine (Mm.fetch _ h _ _ _ HP4.out).mono ?_
      rintro e w5 ⟨rfl, n5, rfl⟩
      rw [Q3.out _ (loadS_len _ _).1]
      have HP5 := Lib.hid (HP4.out.drewN n5); have HU5 := Lib.hid (HU4.out.trans (upd_drewN h.X _ n5))
      clear HP4 HU4
      generalize w4.drewN n5 = w5 at *
      go_wp2_with fail
      refine (Mm.lives _).mono ?_
      rintro e w7 ⟨rfl, hb7⟩
      have HB7 := Lib.hid ((back HX2.out HU5.out HLOW.out).trans hb7)
      clear hb7
      go_wp2_with fail
      go_ret
      exact ⟨rfl, HB7.out⟩
end Go.Proofs.Ytldfnjjgacieoaa.memFlash
