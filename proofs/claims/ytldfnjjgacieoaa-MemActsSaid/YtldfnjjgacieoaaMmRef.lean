/- DERIVED. Contracts of the reference's Load, Store, Fetch, Same. By an AI agent. -/
import Derived.Test.YtldfnjjgacieoaaMmRNew
import Derived.BigRegion
import Derived.StillTailTactics
namespace Go.Proofs.Ytldfnjjgacieoaa.MmR
open Go.ChangeShapes Go.WideShapes Go.ChangeAt Go.RowKit Args Mm
set_option linter.unusedVariables false
def LdEnd (n0 : Nat) (h : Hd) (s : St) (a : Int) (w : World) (e : Ending) (w' : World) : Prop := e = .returned (.tuple #[.int .u32 (lookV s a).1, .int .i64 (lookV s a).2]) ∧ RP n0 h (loadS s a) w' ∧ Upd h.X w w'
theorem plc_no {a f s : Int} {n : Nat} (h : far a f % s ≠ 0 ∨ (n : Int) ≤ far a f / s) : plcB a f s n = false := by
  unfold plcB
  rcases h with h | h
  · simp [h]
  · simp; intro; omega
theorem look_odd (s : St) (a : Int) (h : a % 4 ≠ 0) : lookV s a = (0, 50) := by
  have e1 : plcB a 536870912 4 s.W.length = false := plc_no (.inl (by unfold far; omega))
  have e2 : plcB a 0 4 (s.C.length / 2) = false := plc_no (.inl (by unfold far; omega))
  unfold lookV
  rw [if_neg (by omega), if_neg (by simp [e1]), if_neg (by simp [e2])]
theorem look_sram (s : St) (a : Int) (i : Nat) (ha : a = 536870912 + 4 * i) (hi : i < s.W.length) (hw : s.W.length ≤ 16000) : lookV s a = (s.W.getD i 0, 0) := by
  subst ha
  rw [look_eq s i (by omega), if_pos hi]
where
  look_eq (s : St) (j : Nat) (hj : j < 16384) : lookV s (536870912 + 4 * (j : Int)) = if j < s.W.length then (s.W.getD j 0, 0) else lookV { s with W := [] } (536870912 + 4 * (j : Int)) := by
    have e1 : far (536870912 + 4 * (j : Int)) 536870912 = 4 * (j : Int) := by unfold far; omega
    have e2 : plcB (536870912 + 4 * (j : Int)) 536870912 4 s.W.length = decide (j < s.W.length) := by
      unfold plcB; rw [e1, Bool.eq_iff_iff]; simp <;> omega
    have e3 : plcB (536870912 + 4 * (j : Int)) 536870912 4 0 = false := by
      unfold plcB; rw [e1]; simp <;> omega
    have e5 : (536870912 + 4 * (j : Int) = 1073741824) = False := by simp; omega
    by_cases h : j < s.W.length
    · rw [if_pos h]
      simp [lookV, e5, e2, h, e1]
    · rw [if_neg h]
      simp [lookV, e5, e2, e3, h]
theorem look_flash (s : St) (a : Int) (i : Nat) (ha : a = 4 * i) (h32 : a < 4294967296) (hp : a ≠ 1073741824) (hns : ¬ (536870912 ≤ a ∧ (a - 536870912) / 4 < s.W.length)) (hw : s.W.length ≤ 16000) :
    lookV s a = if 2 * i + 2 ≤ s.C.length then (s.C.getD (2 * i) 0 + 65536 * s.C.getD (2 * i + 1) 0, 0) else (0, 50) := by
  have e1 : plcB a 536870912 4 s.W.length = false := by
    by_cases hg : 536870912 ≤ a
    · exact plc_no (.inr (by rw [far_ge hg (by omega) (by omega)]; omega))
    · exact plc_no (.inr (by rw [far_lt (by omega) (by omega) (by omega)]; omega))
  have e2 : far a 0 = a := by unfold far; omega
  have e3 : plcB a 0 4 (s.C.length / 2) = decide (2 * i + 2 ≤ s.C.length) := by
    unfold plcB; rw [e2, Bool.eq_iff_iff]; simp <;> omega
  unfold lookV
  rw [if_neg hp, if_neg (by simp [e1]), e3, e2]
  have e4 : (a / 4).toNat = i := by omega
  by_cases h : 2 * i + 2 ≤ s.C.length
  · rw [if_pos h, if_pos (by simpa using h), e4]
  · rw [if_neg h, if_neg (by simpa using h)]
theorem load_err {s : St} {a er : Int} (h : lookV s a = (0, er)) (he : er ≠ 0) : loadS s a = s := by
  unfold loadS; rw [h, if_neg he]
theorem load_ok {s : St} {a z : Int} (h : lookV s a = (z, 0)) (hp : a ≠ 1073741824) : loadS s a = { s with b := z } := by
  unfold loadS; rw [h, if_pos rfl, if_neg hp]
section
variable (n0 : Nat) (h : Hd) (s : St) (w : World)
theorem ld_err {a er : Int} (p : RP n0 h s w) (hl : lookV s a = (0, er)) (he : er ≠ 0) (n : Nat) : LdEnd n0 h s a w (.returned (.tuple #[.int .u32 0, .int .i64 er])) (w.drewN n) :=
  ⟨by rw [hl], by rw [load_err hl he]; exact p.drewN n, upd_drewN _ _ _⟩
theorem ld_ok {a z : Int} (p : RP n0 h s w) (hl : lookV s a = (z, 0)) (hp : a ≠ 1073741824) (n : Nat) : LdEnd n0 h s a w (.returned (.tuple #[.int .u32 z, .int .i64 0])) ((w.drewN n).setCell ⟨h.r, 4, none⟩ (.int .u32 z)) := by
  have hu : Upd (· = h.r) (w.drewN n) ((w.drewN n).setCell ⟨h.r, 4, none⟩ (.int .u32 z)) := (Upd.refl (· = h.r) _).setCell (p := ⟨h.r, 4, none⟩) (fun _ => rfl) _
  have hf := p.fit.loadS a
  rw [load_ok hl hp] at hf
  refine ⟨by rw [hl], ?_, (upd_drewN h.X w n).trans (hu.mono fun k e => .inl e)⟩
  rw [load_ok hl hp]
  exact (p.drewN n).nums rfl rfl rfl hf ((p.drewN n).blk.set 4 _) hu
set_option maxHeartbeats 4000000 in
set_option maxRecDepth 100000 in
theorem load (a : Int) (a0 : 0 ≤ a) (a1 : a < 4294967296) (p : RP n0 h s w) : Calls Try.prog 12 #[ptr h.r, .int .u32 a] w (LdEnd n0 h s a w) := by
  have c0 : w.cell? ⟨h.r, 0, none⟩ = some (.slice h.AC s.C.length h.cC) := p.blk.cell 0
  have c1 : w.cell? ⟨h.r, 1, none⟩ = some (.slice h.AW s.W.length h.cW) := p.blk.cell 1
  have c2 : w.cell? ⟨h.r, 2, none⟩ = some (.slice h.AT s.T.length h.cT) := p.blk.cell 2
  have c3 : w.cell? ⟨h.r, 3, none⟩ = some (.int .i64 s.d) := p.blk.cell 3
  have c4 : w.cell? ⟨h.r, 4, none⟩ = some (.int .u32 s.b) := p.blk.cell 4
  have f3 := p.blk.frozen 3
  have f4 := p.blk.frozen 4
  have hcl := p.fit.cl; have hwl := p.fit.wl; have htl := p.fit.tl; have hd := p.fit.d
  by_cases hodd : a % 4 = 0
  · have o1 : (a % 4 != 0) = false := by simp [hodd]
    have o2 : (a % 4 == 0) = true := by simp [hodd]
    by_cases hp : a = 1073741824
    · subst hp
      by_cases hlt : s.d < s.T.length
      · have hl : lookV s 1073741824 = (s.T.getD s.d 0, 0) := by unfold lookV; rw [if_pos rfl, if_pos hlt]
        have hls : loadS s 1073741824 = { s with d := s.d + 1, b := s.T.getD s.d 0 } := by unfold loadS; rw [hl, if_pos rfl, if_pos rfl]
        obtain ⟨g, hg, hc⟩ := p.cellT hlt
        have hgr : g ≠ h.r := fun e => p.rT (by rw [hg, e])
        have hf := p.fit.loadS 1073741824
        rw [hg] at c2
        have HL := Lib.hid hl; have HLS := Lib.hid hls; have HF := Lib.hid hf; have HP := Lib.hid p
        have hdi : (s.d : Int) < (s.T.length : Int) := by omega
        have hdi2 : (s.T.length : Int) ≤ 140737488351232 := by omega
        clear hl hls hf p hg hcl hwl htl hd hlt hodd o1 o2
        generalize s.T.getD s.d 0 = z at *
        go_enter Try.func12, Try.ntmps12
        go_wp2_with fail
        go_quiet (fail)
        go_wp2_with fail
        have HQ := Lib.hid (HP.out.drewN nq); have HU := Lib.hid (upd_drewN h.X w nq)
        have d2 : (w.drewN nq).cell? ⟨h.r, 2, none⟩ = some (.slice (some ⟨g, 0, none⟩) s.T.length h.cT) := c2
        have d3 : (w.drewN nq).cell? ⟨h.r, 3, none⟩ = some (.int .i64 s.d) := c3
        have d4 : (w.drewN nq).cell? ⟨h.r, 4, none⟩ = some (.int .u32 s.b) := c4
        have dc : (w.drewN nq).cell? ⟨g, s.d, none⟩ = some (.int .u32 z) := hc
        have g3 : (w.drewN nq).frozen? ⟨h.r, 3, none⟩ = false := f3
        have g4 : (w.drewN nq).frozen? ⟨h.r, 4, none⟩ = false := f4
        clear c0 c1 c2 c3 c4 hc f3 f4 HP
        generalize w.drewN nq = wq at *
        have hwd : IntKind.i64.wrap ((s.d : Int) + 1) = (s.d : Int) + 1 := IntWalk.i64_in _ (by omega)
        go_still_tail 19, (by kernel_rfl)
        change wpList _ _ _ _ _ wq.drew
        have HQ2 := Lib.hid HQ.out.drew; have HU2 := Lib.hid (HU.out.trans ((Upd.refl h.X wq).drew))
        have e3 : wq.drew.cell? ⟨h.r, 3, none⟩ = some (.int .i64 s.d) := d3
        have e4 : wq.drew.cell? ⟨h.r, 4, none⟩ = some (.int .u32 s.b) := d4
        have i3 : wq.drew.frozen? ⟨h.r, 3, none⟩ = false := g3
        have i4 : wq.drew.frozen? ⟨h.r, 4, none⟩ = false := g4
        clear d2 d3 d4 dc g3 g4 HQ HU
        generalize wq.drew = w2 at *
        go_wp2_with fail
        go_ret2
        have hu : Upd (· = h.r) w2 ((w2.setCell ⟨h.r, 3, none⟩ (.int .i64 ((s.d : Int) + 1))).setCell ⟨h.r, 4, none⟩ (.int .u32 z)) := ((Upd.refl (· = h.r) w2).setCell (p := ⟨h.r, 3, none⟩) (fun _ => rfl) _).setCell (p := ⟨h.r, 4, none⟩) (fun _ => rfl) _
        refine ⟨by rw [HL.out]; rfl, ?_, HU2.out.trans (hu.mono fun k e => .inl e)⟩
        have hf := HF.out
        rw [HLS.out] at hf ⊢
        exact HQ2.out.nums rfl rfl rfl hf ((HQ2.out.blk.set 3 _).set 4 _) hu
      · have hl : lookV s 1073741824 = (0, 51) := by unfold lookV; rw [if_pos rfl, if_neg hlt]
        have hE := fun n => ld_err n0 h s w p hl (by decide) n
        have hdd : s.d = s.T.length := by omega
        rw [hdd] at c3
        have HE := Lib.hid hE
        clear hE hl hdd hlt p c0 c1 c4 f3 f4 hcl hwl hd hodd o1 o2
        go_enter Try.func12, Try.ntmps12
        go_wp2_with fail
        go_quiet (fail)
        go_wp2_with fail
        go_ret2
        exact HE.out nq
    · have hpb : (a == 1073741824) = false := by simpa using hp
      by_cases hs : 536870912 ≤ a ∧ (a - 536870912) / 4 < s.W.length
      · obtain ⟨i, hi⟩ : ∃ i : Nat, a = 536870912 + 4 * i := ⟨((a - 536870912) / 4).toNat, by omega⟩
        have hil : i < s.W.length := by omega
        have hl := look_sram s a i hi hil hwl
        have hE := fun n => ld_ok n0 h s w p hl hp n
        obtain ⟨g, hg, hc, _⟩ := p.cellW hil
        rw [hg] at c1
        generalize s.W.getD i 0 = z at *
        have HE := Lib.hid hE
        have hge : decide ((536870912 : Int) ≤ a) = true := by simp; omega
        have hw1 : IntKind.u32.wrap (a - 536870912) = 4 * (i : Int) := by show (a - 536870912) % 4294967296 = _; omega
        have hw2 : (4 * (i : Int)) / 4 = (i : Int) := by omega
        have hil2 : (i : Int) < (s.W.length : Int) := by omega
        have hil3 : (s.W.length : Int) ≤ 16000 := by omega
        clear hE hl hi p hg c0 c2 c3 f3 hcl hwl htl hd hodd hs hp a1
        go_enter Try.func12, Try.ntmps12
        go_wp2_with fail
        go_ret2
        exact HE.out 0
      · obtain ⟨i, hi⟩ : ∃ i : Nat, a = 4 * i := ⟨(a / 4).toNat, by omega⟩
        have hl := look_flash s a i hi a1 hp hs hwl
        have hw2 : a / 2 = 2 * (i : Int) := by omega
        have hsr : a < 536870912 ∨ (536870912 ≤ a ∧ (s.W.length : Int) ≤ (a - 536870912) / 4) := by omega
        have hil3 : (s.W.length : Int) ≤ 16000 := by omega
        have hcl3 : (s.C.length : Int) ≤ 60000 := by omega
        have hi30 : (i : Int) < 1073741824 := by omega
        have HI := Lib.hid hi
        by_cases hc : 2 * i + 2 ≤ s.C.length
        · rw [if_pos hc] at hl
          obtain ⟨g, hg, k0⟩ := p.cellC (i := 2 * i) (by omega)
          obtain ⟨g', hg', k1⟩ := p.cellC (i := 2 * i + 1) (by omega)
          obtain rfl : g = g' := by rw [hg] at hg'; cases hg'; rfl
          rw [hg] at c0
          have b0 := Mm.getD_in p.fit.c (i := 2 * i) (by omega)
          have b1 := Mm.getD_in p.fit.c (i := 2 * i + 1) (by omega)
          have hE := fun n => ld_ok n0 h s w p hl hp n
          have hlt : a < 120000 := by omega
          have hge : decide ((536870912 : Int) ≤ a) = false := by simp; omega
          have hj : 2 * (i : Int) + 2 ≤ (s.C.length : Int) := by omega
          generalize s.C.getD (2 * i) 0 = x at *
          generalize s.C.getD (2 * i + 1) 0 = y at *
          have HE := Lib.hid hE
          clear hE hl hi p hg hg' c1 c2 c3 f3 hcl hwl htl hd hodd hs hp a1 hc hsr hlt hi30
          go_enter Try.func12, Try.ntmps12
          have w1 : IntKind.i64.wrap (2 * (i : Int) + 1) = 2 * (i : Int) + 1 := IntWalk.i64_in _ (by omega)
          have w3 : (2 * (i : Int)).toNat = 2 * i := by omega
          have w4 : (2 * (i : Int) + 1).toNat = 2 * i + 1 := by omega
          go_wp2_with fail
          go_quiet (fail)
          go_wp2_with fail
          go_ret2
          exact HE.out nq
        · rw [if_neg hc] at hl
          have hE := ld_err n0 h s w p hl (by decide) 0
          have hge : a < 536870912 ∨ 536870912 ≤ a := by omega
          have hj : decide (2 * (i : Int) + 2 ≤ (s.C.length : Int)) = false := by simp; omega
          have HE := Lib.hid hE
          have HS := Lib.hid hsr
          clear hE hl hi p c2 c3 c4 f3 f4 hcl hwl htl hd hodd hs hp a1 hc hsr
          rcases hge with hg | hg
          · have hge : decide ((536870912 : Int) ≤ a) = false := by simp; omega
            clear hg
            go_enter Try.func12, Try.ntmps12
            go_wp2_with fail
            go_ret2
            exact HE.out
          · obtain ⟨q, hq⟩ : ∃ q : Nat, a - 536870912 = q := ⟨(a - 536870912).toNat, by omega⟩
            have hq2 : (q : Int) < 4294967296 := by have := HI.out; omega
            have hw1 : IntKind.u32.wrap (a - 536870912) = (q : Int) := by show (a - 536870912) % 4294967296 = _; omega
            have hsq : decide ((q : Int) / 4 < (s.W.length : Int)) = false := by have := HS.out; simp; omega
            have hge : decide ((536870912 : Int) ≤ a) = true := by simp; omega
            have hqn : q / 4 < 1073741824 := by omega
            clear hg hq hq2
            go_enter Try.func12, Try.ntmps12
            go_wp2_with fail
            go_ret2
            exact HE.out
  · have hE := ld_err n0 h s w p (look_odd s a hodd) (by decide) 0
    have o1 : (a % 4 != 0) = true := by simp [hodd]
    have o2 : (a % 4 == 0) = false := by simp [hodd]
    have HE := Lib.hid hE
    clear hE hodd p c0 c1 c2 c3 c4 f3 f4 hcl hwl htl hd
    go_enter Try.func12, Try.ntmps12
    go_wp2_with fail
    go_ret2
    exact HE.out
end
end Go.Proofs.Ytldfnjjgacieoaa.MmR
