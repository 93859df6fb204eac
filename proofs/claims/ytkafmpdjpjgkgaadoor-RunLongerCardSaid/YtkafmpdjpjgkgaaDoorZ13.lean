/- DERIVED. MmAct in one text. By an AI agent. -/
import Derived.Test.YtkafmpdjpjgkgaaDoorZ08
import Derived.IntWalk
/- DERIVED. Contracts of the program's look, Load, Store, Fetch, Word, Set. By an AI agent. -/
namespace Go.Proofs.YtkafmpdjpjgkgaaDoor.Mm
open Go.ChangeShapes Go.WideShapes Go.ChangeAt Go.RowKit Args
set_option linter.unusedVariables false
theorem plcV_yes {a f s : Int} {n : Nat} (h : plcB a f s n = true) : plcV a f s n = .tuple #[.int .i64 (far a f / s), .bool true] := by unfold plcV; rw [if_pos h]
theorem plcV_no {a f s : Int} {n : Nat} (h : plcB a f s n = false) : plcV a f s n = .tuple #[.int .i64 0, .bool false] := by unfold plcV; rw [if_neg (by simp [h])]
theorem plc_idx {a f s : Int} {n : Nat} (hs : 0 < s) (h : plcB a f s n = true) : ∃ i : Nat, i < n ∧ far a f / s = i := by
  unfold plcB at h
  simp only [Bool.and_eq_true, decide_eq_true_eq] at h
  have := far_lo a f
  have h0 : 0 ≤ far a f / s := Int.ediv_nonneg this (by omega)
  exact ⟨(far a f / s).toNat, by omega, by omega⟩
section
variable (n0 : Nat) (h : Hd) (s : St) (w : World)
set_option maxHeartbeats 2000000 in
theorem look (a : Int) (p : PP n0 h s w) : Calls Tryd.prog 84 #[ptr h.r, .int .u32 a] w (Qt (.tuple #[.int .u32 (lookV s a).1, .int .i64 (lookV s a).2]) w) := by
  have c0 : w.cell? ⟨h.r, 0, none⟩ = some (.slice h.AC s.C.length h.cC) := p.blk.cell 0
  have c1 : w.cell? ⟨h.r, 1, none⟩ = some (.slice h.AW s.W.length h.cW) := p.blk.cell 1
  have c2 : w.cell? ⟨h.r, 2, none⟩ = some (.slice h.AT s.T.length h.cT) := p.blk.cell 2
  have c3 : w.cell? ⟨h.r, 3, none⟩ = some (.int .i64 s.d) := p.blk.cell 3
  have hcl := p.fit.cl; have hwl := p.fit.wl; have htl := p.fit.tl; have hd := p.fit.d
  by_cases hp : a = 1073741824
  · by_cases hlt : s.d < s.T.length
    · have e : lookV s a = (s.T.getD s.d 0, 0) := by unfold lookV; rw [if_pos hp, if_pos hlt]
      rw [e]
      subst hp
      obtain ⟨g, hg, hc⟩ := p.cellT hlt
      rw [hg] at c2
      generalize s.T.getD s.d 0 = z at *
      generalize s.T.length = nT at *
      generalize s.d = d at *
      generalize h.r = r at *
      have hne : ((d : Int) == (nT : Int)) = false := by simp; omega
      clear p e hg c0 c1
      go_enter Tryd.func84, Tryd.ntmps84
      go_wp2_with fail
      go_quiet (fail)
      go_wp2_with fail
      go_quiet (fail)
      go_wp2_with fail
      go_ret2
      exact Qt.of2 _ _ _ _
    · have e : lookV s a = (0, 51) := by unfold lookV; rw [if_pos hp, if_neg hlt]
      rw [e]
      subst hp
      have hdd : s.d = s.T.length := by omega
      rw [hdd] at c3
      generalize s.T.length = nT at *
      generalize h.r = r at *
      clear p e hdd hlt hd c0 c1
      go_enter Tryd.func84, Tryd.ntmps84
      go_wp2_with fail
      go_quiet (fail)
      go_wp2_with fail
      go_ret2
      exact Qt.of _ _ _
  · have hpb : (a == 1073741824) = false := by simpa using hp
    have h1 := fun W => place a 536870912 4 s.W.length (.inr rfl) (by omega) W
    cases h1b : plcB a 536870912 4 s.W.length with
    | true =>
      obtain ⟨i, hi, hq⟩ := plc_idx (by decide) h1b
      have e : lookV s a = (s.W.getD i 0, 0) := by unfold lookV; rw [if_neg hp, if_pos h1b, hq]; rfl
      rw [e]
      simp only [plcV_yes h1b, hq] at h1
      obtain ⟨g, hg, hc, _⟩ := p.cellW hi
      rw [hg] at c1
      generalize s.W.getD i 0 = z at *
      generalize s.W.length = nW at *
      generalize h.r = r at *
      have H1 := Lib.hid h1
      clear p e hg h1 h1b hq c0 c2 c3 hp hd
      go_enter Tryd.func84, Tryd.ntmps84
      go_wp2_with fail
      refine (H1.out _).mono ?_
      rintro e w1 ⟨rfl, rfl⟩
      go_wp2_with fail
      go_ret2
      exact Qt.same _ _
    | false =>
      have h2 := fun W => place a 0 4 (s.C.length / 2) (.inr rfl) (by omega) W
      have en : ((s.C.length / 2 : Nat) : Int) = (s.C.length : Int) / 2 := by omega
      simp only [plcV_no h1b] at h1
      cases h2b : plcB a 0 4 (s.C.length / 2) with
      | true =>
        obtain ⟨i, hi, hq⟩ := plc_idx (by decide) h2b
        have e : lookV s a = (s.C.getD (2 * i) 0 + 65536 * s.C.getD (2 * i + 1) 0, 0) := by unfold lookV; rw [if_neg hp, if_neg (by simp [h1b]), if_pos h2b, hq]; rfl
        rw [e]
        simp only [plcV_yes h2b, hq, en] at h2
        obtain ⟨g, hg, k0⟩ := p.cellC (i := 2 * i) (by omega)
        obtain ⟨g', hg', k1⟩ := p.cellC (i := 2 * i + 1) (by omega)
        obtain rfl : g = g' := by rw [hg] at hg'; cases hg'; rfl
        rw [hg] at c0
        have b0 := getD_in p.fit.c (i := 2 * i) (by omega)
        have b1 := getD_in p.fit.c (i := 2 * i + 1) (by omega)
        have hi2 : 2 * i + 1 < s.C.length := by omega
        have hj := lo_hi _ _ b0.1 b0.2 b1.1 b1.2
        generalize s.C.getD (2 * i) 0 = x at *
        generalize s.C.getD (2 * i + 1) 0 = y at *
        generalize s.C.length = nC at *
        generalize s.W.length = nW at *
        generalize h.r = r at *
        have H1 := Lib.hid h1; have H2 := Lib.hid h2; have HJ := Lib.hid hj
        have w1 : IntKind.i64.wrap (2 * (i : Int)) = 2 * (i : Int) := IntWalk.i64_in _ (by omega)
        have w2 : IntKind.i64.wrap (2 * (i : Int) + 1) = 2 * (i : Int) + 1 := IntWalk.i64_in _ (by omega)
        have w3 : (2 * (i : Int)).toNat = 2 * i := by omega
        have w4 : (2 * (i : Int) + 1).toNat = 2 * i + 1 := by omega
        have W1 := Lib.hid w1; have W2 := Lib.hid w2; have W3 := Lib.hid w3; have W4 := Lib.hid w4
        clear p e hg hg' h1 h2 h1b h2b hq c2 c3 hp hd en hj w1 w2 w3 w4
        go_enter Tryd.func84, Tryd.ntmps84
        go_wp2_with fail
        refine (H1.out _).mono ?_
        rintro e w1 ⟨rfl, rfl⟩
        go_wp2_with fail
        refine (H2.out _).mono ?_
        rintro e w1 ⟨rfl, rfl⟩
        go_wp2_with fail
        have w1 := W1.out; have w2 := W2.out; have w3 := W3.out; have w4 := W4.out
        go_quiet (fail)
        go_wp2_with fail
        go_ret2
        exact ⟨by rw [← HJ.out]; rfl, _, rfl⟩
      | false =>
        have e : lookV s a = (0, 50) := by unfold lookV; rw [if_neg hp, if_neg (by simp [h1b]), if_neg (by simp [h2b])]
        rw [e]
        simp only [plcV_no h2b, en] at h2
        generalize s.C.length = nC at *
        generalize s.W.length = nW at *
        generalize h.r = r at *
        have H1 := Lib.hid h1; have H2 := Lib.hid h2
        clear p e h1 h2 h1b h2b c2 c3 hp hd en
        go_enter Tryd.func84, Tryd.ntmps84
        go_wp2_with fail
        refine (H1.out _).mono ?_
        rintro e w1 ⟨rfl, rfl⟩
        go_wp2_with fail
        refine (H2.out _).mono ?_
        rintro e w1 ⟨rfl, rfl⟩
        go_wp2_with fail
        go_ret2
        exact Qt.same _ _
end
/-- Behind Load. -/
def LdEnd (n0 : Nat) (h : Hd) (s : St) (a : Int) (w : World) (e : Ending) (w' : World) : Prop := e = .returned (.tuple #[.int .u32 (lookV s a).1, .int .i64 (lookV s a).2]) ∧ PP n0 h (loadS s a) w' ∧ Upd h.X w w'
theorem upd_drewN (X : Nat → Prop) (w : World) (n : Nat) : Upd X w (w.drewN n) := (Upd.refl X w).drewN n
section
variable (n0 : Nat) (h : Hd) (s : St) (w : World)
set_option maxHeartbeats 2000000 in
theorem load (a : Int) (p : PP n0 h s w) : Calls Tryd.prog 74 #[ptr h.r, .int .u32 a] w (LdEnd n0 h s a w) := by
  have hk := look n0 h s w a p
  by_cases h0 : (lookV s a).2 = 0
  · have hfit := p.fit.loadS a
    have hls : loadS s a = { s with d := if a = 1073741824 then s.d + 1 else s.d, b := (lookV s a).1 } := by unfold loadS; rw [if_pos h0]
    have hend : ∀ w1 : World, PP n0 h (loadS s a) w1 → Upd h.X w w1 → LdEnd n0 h s a w (.returned (.tuple #[.int .u32 (lookV s a).1, .int .i64 0])) w1 := fun w1 h1 h2 => ⟨by rw [h0], h1, h2⟩
    have hbd := p.fit.look a
    rw [h0] at hk
    have hpt := fun e => look_port h0 (a := a) e
    have htl := p.fit.tl
    by_cases hp : a = 1073741824
    · have hd := hpt hp
      have hd2 : (s.d : Int) < 140737488351232 := by omega
      rw [if_pos hp] at hls
      generalize (lookV s a).1 = z at *
      have HK := Lib.hid hk; have HP := Lib.hid p; have HE := Lib.hid hend; have HF := Lib.hid hfit; have HL := Lib.hid hls
      subst hp
      clear hk p hend hfit hls hpt h0 htl hd
      go_enter Tryd.func74, Tryd.ntmps74
      go_wp2_with fail
      refine HK.out.mono ?_
      rintro e w1 ⟨rfl, nq, rfl⟩
      have HQ := Lib.hid (HP.out.drewN nq); have HU := Lib.hid (upd_drewN h.X w nq)
      clear HK HP
      generalize w.drewN nq = wq at *
      have c3 : wq.cell? ⟨h.r, 3, none⟩ = some (.int .i64 s.d) := HQ.out.blk.cell 3
      have c4 : wq.cell? ⟨h.r, 4, none⟩ = some (.int .u32 s.b) := HQ.out.blk.cell 4
      have f3 := HQ.out.blk.frozen 3
      have f4 := HQ.out.blk.frozen 4
      go_wp2_with fail
      go_ret2
      have hu : Upd (· = h.r) wq ((wq.setCell ⟨h.r, 3, none⟩ (.int .i64 ((s.d : Int) + 1))).setCell ⟨h.r, 4, none⟩ (.int .u32 z)) := ((Upd.refl (· = h.r) wq).setCell (p := ⟨h.r, 3, none⟩) (fun _ => rfl) _).setCell (p := ⟨h.r, 4, none⟩) (fun _ => rfl) _
      refine HE.out _ (by rw [HL.out] at HF ⊢; exact HQ.out.nums rfl rfl rfl HF.out ((HQ.out.blk.set 3 _).set 4 _) hu) (HU.out.trans (hu.mono fun k e => .inl e))
    · have hpb : (a == 1073741824) = false := by simpa using hp
      rw [if_neg hp] at hls
      generalize (lookV s a).1 = z at *
      have HK := Lib.hid hk; have HP := Lib.hid p; have HE := Lib.hid hend; have HF := Lib.hid hfit; have HL := Lib.hid hls
      clear hk p hend hfit hls hpt h0 htl hp
      go_enter Tryd.func74, Tryd.ntmps74
      go_wp2_with fail
      refine HK.out.mono ?_
      rintro e w1 ⟨rfl, nq, rfl⟩
      have HQ := Lib.hid (HP.out.drewN nq); have HU := Lib.hid (upd_drewN h.X w nq)
      clear HK HP
      generalize w.drewN nq = wq at *
      have c4 : wq.cell? ⟨h.r, 4, none⟩ = some (.int .u32 s.b) := HQ.out.blk.cell 4
      have f4 := HQ.out.blk.frozen 4
      go_wp2_with fail
      go_ret2
      have hu : Upd (· = h.r) wq (wq.setCell ⟨h.r, 4, none⟩ (.int .u32 z)) := (Upd.refl (· = h.r) wq).setCell (p := ⟨h.r, 4, none⟩) (fun _ => rfl) _
      refine HE.out _ (by rw [HL.out] at HF ⊢; exact HQ.out.nums rfl rfl rfl HF.out (HQ.out.blk.set 4 _) hu) (HU.out.trans (hu.mono fun k e => .inl e))
  · have hls : loadS s a = s := by unfold loadS; rw [if_neg h0]
    have hne : ((lookV s a).2 != 0) = true := by simp [h0]
    have hend : ∀ w1 : World, PP n0 h s w1 → Upd h.X w w1 → LdEnd n0 h s a w (.returned (.tuple #[.int .u32 0, .int .i64 (lookV s a).2])) w1 := fun w1 h1 h2 => ⟨by
      have hz : (lookV s a).1 = 0 := by
        revert h0; unfold lookV; split
        · split <;> simp
        · split
          · simp
          · split <;> simp
      rw [hz], by rw [hls]; exact h1, h2⟩
    generalize (lookV s a).2 = er at *
    generalize (lookV s a).1 = z at *
    have HK := Lib.hid hk; have HP := Lib.hid p; have HE := Lib.hid hend
    clear hk p hend hls h0
    go_enter Tryd.func74, Tryd.ntmps74
    go_wp2_with fail
    refine HK.out.mono ?_
    rintro e w1 ⟨rfl, nq, rfl⟩
    go_wp2_with fail
    go_ret2
    exact HE.out _ (HP.out.drewN nq) (upd_drewN _ _ _)
end
def StEnd (n0 : Nat) (h : Hd) (s : St) (a u : Int) (w : World) (e : Ending) (w' : World) : Prop := e = .returned (.int .i64 (storeE s a)) ∧ PP n0 h (storeS s a u) w' ∧ Upd h.X w w'
def SetEnd (n0 : Nat) (h : Hd) (s : St) (i u : Int) (w : World) (e : Ending) (w' : World) : Prop := e = .returned (.bool (decide (0 ≤ i ∧ i < s.W.length))) ∧ PP n0 h (setS s i u) w' ∧ Upd h.X w w'
section
variable (n0 : Nat) (h : Hd) (s : St) (w : World)
set_option maxHeartbeats 2000000 in
theorem store (a u : Int) (hu : 0 ≤ u ∧ u < 4294967296) (p : PP n0 h s w) : Calls Tryd.prog 76 #[ptr h.r, .int .u32 a, .int .u32 u] w (StEnd n0 h s a u w) := by
  have c1 : w.cell? ⟨h.r, 1, none⟩ = some (.slice h.AW s.W.length h.cW) := p.blk.cell 1
  have hwl := p.fit.wl
  have h1 := fun W => place a 536870912 4 s.W.length (.inr rfl) (by omega) W
  cases h1b : plcB a 536870912 4 s.W.length with
  | true =>
    obtain ⟨i, hi, hq⟩ := plc_idx (by decide) h1b
    have e1 : storeE s a = 0 := by unfold storeE; rw [if_pos h1b]
    have e2 : storeS s a u = { s with W := s.W.set i u, b := u } := by unfold storeS; rw [if_pos h1b, hq]; rfl
    simp only [plcV_yes h1b, hq] at h1
    obtain ⟨g, hg, hc, hfz⟩ := p.cellW hi
    have hgr : g ≠ h.r := fun e => p.rW (by rw [← e]; exact hg)
    have hend : ∀ w1 : World, PP n0 h { s with W := s.W.set i u, b := u } w1 → Upd h.X w w1 → StEnd n0 h s a u w (.returned (.int .i64 0)) w1 := fun w1 h1 h2 => ⟨by rw [e1], by rw [e2]; exact h1, h2⟩
    obtain ⟨p2, u2⟩ := p.word hg i u hu
    have hfit := p.fit.storeS a hu
    rw [e2] at hfit
    rw [hg] at c1
    have c4 : w.cell? ⟨h.r, 4, none⟩ = some (.int .u32 s.b) := p.blk.cell 4
    have f4 := p.blk.frozen 4
    generalize s.W.getD i 0 = z at *
    have H1 := Lib.hid h1; have HE := Lib.hid hend; have HP2 := Lib.hid p2; have HU2 := Lib.hid u2; have HF := Lib.hid hfit
    clear p hg h1 h1b hq e1 e2 hend p2 u2 hfit
    generalize s.W.length = nW at *
    go_enter Tryd.func76, Tryd.ntmps76
    go_wp2_with fail
    refine (H1.out _).mono ?_
    rintro e w1 ⟨rfl, rfl⟩
    go_wp2_with fail
    go_ret
    have hu3 : Upd (· = h.r) (w.setCell ⟨g, i, none⟩ (.int .u32 u)) ((w.setCell ⟨g, i, none⟩ (.int .u32 u)).setCell ⟨h.r, 4, none⟩ (.int .u32 u)) := (Upd.refl (· = h.r) _).setCell (p := ⟨h.r, 4, none⟩) (fun _ => rfl) _
    exact HE.out _ (HP2.out.nums (s' := { s with W := s.W.set i u, b := u }) rfl rfl rfl HF.out (HP2.out.blk.set 4 _) hu3) (HU2.out.trans (hu3.mono fun k e => .inl e))
  | false =>
    have e1 : storeE s a = 50 := by unfold storeE; rw [if_neg (by simp [h1b])]
    have e2 : storeS s a u = s := by unfold storeS; rw [if_neg (by simp [h1b])]
    simp only [plcV_no h1b] at h1
    have hend : StEnd n0 h s a u w (.returned (.int .i64 50)) w := ⟨by rw [e1], by rw [e2]; exact p, Upd.refl _ _⟩
    have H1 := Lib.hid h1; have HE := Lib.hid hend
    clear p h1 h1b e1 e2 hend
    go_enter Tryd.func76, Tryd.ntmps76
    go_wp2_with fail
    refine (H1.out _).mono ?_
    rintro e w1 ⟨rfl, rfl⟩
    go_wp2_with fail
    go_ret
    exact HE.out
set_option maxHeartbeats 2000000 in
theorem set (i u : Int) (hu : 0 ≤ u ∧ u < 4294967296) (p : PP n0 h s w) : Calls Tryd.prog 40 #[ptr h.r, .int .i64 i, .int .u32 u] w (SetEnd n0 h s i u w) := by
  have c1 : w.cell? ⟨h.r, 1, none⟩ = some (.slice h.AW s.W.length h.cW) := p.blk.cell 1
  have hwl := p.fit.wl
  by_cases hin : 0 ≤ i ∧ i < s.W.length
  · have h1 := has_yes n0 h s w p i hin.1 hin.2
    obtain ⟨k, rfl⟩ := Int.eq_ofNat_of_zero_le hin.1
    have hk : k < s.W.length := by omega
    have e2 : setS s k u = { s with W := s.W.set k u } := by unfold setS; rw [if_pos hin]; rfl
    obtain ⟨g, hg, hc, hfz⟩ := p.cellW hk
    obtain ⟨p2, u2⟩ := p.word hg k u hu
    have hend : SetEnd n0 h s k u w (.returned (.bool true)) (w.setCell ⟨g, k, none⟩ (.int .u32 u)) := ⟨by rw [decide_eq_true hin], by rw [e2]; exact p2, u2⟩
    rw [hg] at c1
    generalize s.W.getD k 0 = z at *
    have H1 := Lib.hid h1; have HE := Lib.hid hend
    clear p hg h1 e2 hend p2 u2 hin
    generalize s.W.length = nW at *
    go_enter Tryd.func40, Tryd.ntmps40
    go_wp2_with fail
    refine (H1.out).mono ?_
    rintro e w1 ⟨rfl, rfl⟩
    go_wp2_with fail
    go_ret
    exact HE.out
  · have h1 := has_no n0 h s w p i (by omega)
    have e2 : setS s i u = s := by unfold setS; rw [if_neg hin]
    have hend : SetEnd n0 h s i u w (.returned (.bool false)) w := ⟨by rw [decide_eq_false hin], by rw [e2]; exact p, Upd.refl _ _⟩
    have H1 := Lib.hid h1; have HE := Lib.hid hend
    clear p h1 e2 hend hin
    go_enter Tryd.func40, Tryd.ntmps40
    go_wp2_with fail
    refine (H1.out).mono ?_
    rintro e w1 ⟨rfl, rfl⟩
    go_wp2_with fail
    go_ret
    exact HE.out
set_option maxHeartbeats 2000000 in
theorem fetch (a : Int) (p : PP n0 h s w) : Calls Tryd.prog 57 #[ptr h.r, .int .u32 a] w (Qt (.tuple #[.int .u16 (fetchV s a).1, .int .i64 (fetchV s a).2]) w) := by
  have c0 : w.cell? ⟨h.r, 0, none⟩ = some (.slice h.AC s.C.length h.cC) := p.blk.cell 0
  have hcl := p.fit.cl
  have h1 := fun W => place a 0 2 s.C.length (.inl rfl) (by omega) W
  cases h1b : plcB a 0 2 s.C.length with
  | true =>
    obtain ⟨i, hi, hq⟩ := plc_idx (by decide) h1b
    have e : fetchV s a = (s.C.getD i 0, 0) := by unfold fetchV; rw [if_pos h1b, hq]; rfl
    rw [e]
    simp only [plcV_yes h1b, hq] at h1
    obtain ⟨g, hg, hc⟩ := p.cellC hi
    rw [hg] at c0
    generalize s.C.getD i 0 = z at *
    generalize s.C.length = nC at *
    generalize h.r = r at *
    have H1 := Lib.hid h1
    clear p e hg h1 h1b hq
    go_enter Tryd.func57, Tryd.ntmps57
    go_wp2_with fail
    refine (H1.out _).mono ?_
    rintro e w1 ⟨rfl, rfl⟩
    go_wp2_with fail
    go_ret2
    exact Qt.same _ _
  | false =>
    have e : fetchV s a = (0, 50) := by unfold fetchV; rw [if_neg (by simp [h1b])]
    rw [e]
    simp only [plcV_no h1b] at h1
    have H1 := Lib.hid h1
    clear p e h1 h1b
    go_enter Tryd.func57, Tryd.ntmps57
    go_wp2_with fail
    refine (H1.out _).mono ?_
    rintro e w1 ⟨rfl, rfl⟩
    go_wp2_with fail
    go_ret2
    exact Qt.same _ _
end
end Go.Proofs.YtkafmpdjpjgkgaaDoor.Mm
