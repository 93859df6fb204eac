/- DERIVED. MmRNew, MmRef, MmRef2 in one text. By an AI agent. -/
import Derived.Test.YtkafmpdjpjgkgaaDoorZ15
import Derived.Deep.RegionLawGrows
import Derived.BigRegion
import Derived.StillTailTactics
/- DERIVED. The contract of the reference's New. By an AI agent. -/
namespace Go.Proofs.YtkafmpdjpjgkgaaDoor.MmR
open Go.ChangeShapes Go.WideShapes Go.ChangeAt Go.RowKit Args Mm
set_option linter.unusedVariables false
abbrev RP := PM 53 37 36
/-- What the loop over the code has made. -/
structure RI (n0 r : Nat) (C : List Int) (AT : Option Addr) (cT : Nat) (T : List Int) (k : Nat) (A1 : Option Addr) (c1 : Nat) (w wr : World) : Prop where
  blk : Blk wr r 53 #[.slice A1 k c1, .slice none 0 0, .slice AT T.length cT, .int .i64 0, .int .u32 0]
  oc : wr.ownsRow n0 37 1 (.slice A1 k c1) k ((C.take k).map (.int .u16))
  ot : wr.ownsRow n0 36 1 (.slice AT T.length cT) T.length (T.map (.int .u32))
  rC : A1 ≠ some ⟨r, 0, none⟩
  rT : AT ≠ some ⟨r, 0, none⟩
  ct : ∀ k, A1 = some ⟨k, 0, none⟩ → AT ≠ some ⟨k, 0, none⟩
  low : n0 ≤ r
  ext : Ext w wr
theorem own_heap {w : World} {base : Nat} {e : TypeId} {size n c g : Nat} {A : Option Addr} {xs : List Value} (h : w.ownsRow base e size (.slice A n c) n xs) (hA : A = some ⟨g, 0, none⟩) : ∃ cur, w.heap[g]? = some (.cells cur e (0, 0)) := by
  rcases h.2 with ⟨e1, _⟩ | ⟨g', cap, cur, e1, _, hg, _⟩
  · injection e1 with e1; rw [hA] at e1; cases e1
  · injection e1 with e1; rw [hA] at e1; cases e1; exact ⟨cur, hg⟩
theorem ri_next {n0 r cT k c1 c' : Nat} {C T : List Int} {AT A1 A' : Option Addr} {z : Int} {w wr w' : World} (h : RI n0 r C AT cT T k A1 c1 w wr) (hn : n0 = w.heap.size)
    (htk : (C.take k).map (Value.int .u16) ++ [.int .u16 z] = (C.take (k + 1)).map (.int .u16))
    (ho : w'.ownsRow n0 37 1 (.slice A' (k + 1) c') (k + 1) ((C.take k).map (Value.int .u16) ++ [.int .u16 z])) (hg : (wr.alloc (.cells #[.int .u16 z] 37)).drew.grownBy w' (Value.slice A1 k c1).ownBlock)
    (hb : Blk w' r 53 #[.slice A1 k c1, .slice none 0 0, .slice AT T.length cT, .int .i64 0, .int .u32 0]) :
    RI n0 r C AT cT T (k + 1) A' c' w (w'.setCell ⟨r, 0, none⟩ (.slice A' (k + 1) c')) := by
  have hr : A' ≠ some ⟨r, 0, none⟩ := fun e => by
    obtain ⟨cur, hc⟩ := own_heap ho e
    rw [show w'.heap[r]? = _ from hb] at hc
    injection hc with hc; injection hc with _ hc; exact absurd hc (by decide)
  have hup : Upd (· = r) w' (w'.setCell ⟨r, 0, none⟩ (.slice A' (k + 1) c')) := (Upd.refl (· = r) w').setCell (p := ⟨r, 0, none⟩) (fun _ => rfl) _
  have ho2 : w'.ownsRow n0 36 1 (.slice AT T.length cT) T.length (T.map (.int .u32)) := World.ownsRow.kept (World.ownsRow.drew (World.ownsRow.alloc h.ot _)) hg (by
    cases hAT : AT with
    | none => exact .inl rfl
    | some a =>
      right
      rcases own_form h.ot with ⟨e, _⟩ | ⟨g, e, _⟩
      · rw [hAT] at e; cases e
      · rw [hAT] at e; cases e
        rcases own_form h.oc with ⟨e2, _⟩ | ⟨g2, e2, _⟩
        · rw [e2]; simp [Value.ownBlock]
        · rw [e2]; simp only [Value.ownBlock]
          intro e3
          injection e3 with e3
          exact h.ct g2 e2 (by rw [hAT, e3]))
  have he : Below n0 w w' := by
    subst hn
    refine ((Below.alloc (show Below w.heap.size w wr from h.ext) h.ext.size (.cells #[.int .u16 z] 37)).drew).grown hg (by simp only [World.size_drew, World.size_alloc]; have := h.ext.size; omega) fun q hq => ?_
    rcases own_form h.oc with ⟨e, _⟩ | ⟨g, e, e2, _⟩
    · rw [e] at hq; simp [Value.ownBlock] at hq
    · rw [e] at hq; simp [Value.ownBlock] at hq; omega
  refine ⟨hb.set 0 _, ?_, own_upd ho2 hup fun q e e2 => h.rT (by rw [← e2]; exact e), hr, h.rT, fun q e1 e2 => ?_, h.low, ?_⟩
  · rw [← htk]
    exact own_upd ho hup fun q e e2 => hr (by rw [← e2]; exact e)
  · obtain ⟨c1, g1⟩ := own_heap ho e1
    obtain ⟨c2, g2⟩ := own_heap ho2 e2
    rw [g1] at g2
    injection g2 with g2; injection g2 with _ g2; exact absurd g2 (by decide)
  · subst hn
    exact he.setCell (p := ⟨r, 0, none⟩) h.low _
end Go.Proofs.YtkafmpdjpjgkgaaDoor.MmR
/- DERIVED. Contracts of the reference's Load, Store, Fetch, Same. By an AI agent. -/
namespace Go.Proofs.YtkafmpdjpjgkgaaDoor.MmR
open Go.ChangeShapes Go.WideShapes Go.ChangeAt Go.RowKit Args Mm
set_option linter.unusedVariables false
def LdEnd (n0 : Nat) (h : Hd) (s : St) (a : Int) (w : World) (e : Ending) (w' : World) : Prop := e = .returned (.tuple #[.int .u32 (lookV s a).1, .int .i64 (lookV s a).2]) ∧ RP n0 h (loadS s a) w' ∧ Upd h.X w w'
theorem plc_no {a f s : Int} {n : Nat} (h : far a f % s ≠ 0 ∨ (n : Int) ≤ far a f / s) : plcB a f s n = false := by
  unfold plcB
  rcases h with h | h
  · simp [h]
  · simp; intro; omega
theorem look_odd (s : St) (a : Int) (h : a % 4 ≠ 0) : lookV s a = (0, 50) := by
  have e1 : plcB a 536870912 4 s.W.length = false := plc_no (.inl (by unfold far; omega))
  have e2 : plcB a 0 4 (s.C.length / 2) = false := plc_no (.inl (by unfold far; omega))
  unfold lookV
  rw [if_neg (by omega), if_neg (by simp [e1]), if_neg (by simp [e2])]
theorem look_sram (s : St) (a : Int) (i : Nat) (ha : a = 536870912 + 4 * i) (hi : i < s.W.length) (hw : s.W.length ≤ 16000) : lookV s a = (s.W.getD i 0, 0) := by
  subst ha
  rw [look_eq s i (by omega), if_pos hi]
where
  look_eq (s : St) (j : Nat) (hj : j < 16384) : lookV s (536870912 + 4 * (j : Int)) = if j < s.W.length then (s.W.getD j 0, 0) else lookV { s with W := [] } (536870912 + 4 * (j : Int)) := by
    have e1 : far (536870912 + 4 * (j : Int)) 536870912 = 4 * (j : Int) := by unfold far; omega
    have e2 : plcB (536870912 + 4 * (j : Int)) 536870912 4 s.W.length = decide (j < s.W.length) := by
      unfold plcB; rw [e1, Bool.eq_iff_iff]; simp <;> omega
    have e3 : plcB (536870912 + 4 * (j : Int)) 536870912 4 0 = false := by
      unfold plcB; rw [e1]; simp <;> omega
    have e5 : (536870912 + 4 * (j : Int) = 1073741824) = False := by simp; omega
    by_cases h : j < s.W.length
    · rw [if_pos h]
      simp [lookV, e5, e2, h, e1]
    · rw [if_neg h]
      simp [lookV, e5, e2, e3, h]
theorem look_flash (s : St) (a : Int) (i : Nat) (ha : a = 4 * i) (h32 : a < 4294967296) (hp : a ≠ 1073741824) (hns : ¬ (536870912 ≤ a ∧ (a - 536870912) / 4 < s.W.length)) (hw : s.W.length ≤ 16000) :
    lookV s a = if 2 * i + 2 ≤ s.C.length then (s.C.getD (2 * i) 0 + 65536 * s.C.getD (2 * i + 1) 0, 0) else (0, 50) := by
  have e1 : plcB a 536870912 4 s.W.length = false := by
    by_cases hg : 536870912 ≤ a
    · exact plc_no (.inr (by rw [far_ge hg (by omega) (by omega)]; omega))
    · exact plc_no (.inr (by rw [far_lt (by omega) (by omega) (by omega)]; omega))
  have e2 : far a 0 = a := by unfold far; omega
  have e3 : plcB a 0 4 (s.C.length / 2) = decide (2 * i + 2 ≤ s.C.length) := by
    unfold plcB; rw [e2, Bool.eq_iff_iff]; simp <;> omega
  unfold lookV
  rw [if_neg hp, if_neg (by simp [e1]), e3, e2]
  have e4 : (a / 4).toNat = i := by omega
  by_cases h : 2 * i + 2 ≤ s.C.length
  · rw [if_pos h, if_pos (by simpa using h), e4]
  · rw [if_neg h, if_neg (by simpa using h)]
theorem load_err {s : St} {a er : Int} (h : lookV s a = (0, er)) (he : er ≠ 0) : loadS s a = s := by
  unfold loadS; rw [h, if_neg he]
theorem load_ok {s : St} {a z : Int} (h : lookV s a = (z, 0)) (hp : a ≠ 1073741824) : loadS s a = { s with b := z } := by
  unfold loadS; rw [h, if_pos rfl, if_neg hp]
section
variable (n0 : Nat) (h : Hd) (s : St) (w : World)
theorem ld_err {a er : Int} (p : RP n0 h s w) (hl : lookV s a = (0, er)) (he : er ≠ 0) (n : Nat) : LdEnd n0 h s a w (.returned (.tuple #[.int .u32 0, .int .i64 er])) (w.drewN n) :=
  ⟨by rw [hl], by rw [load_err hl he]; exact p.drewN n, upd_drewN _ _ _⟩
theorem ld_ok {a z : Int} (p : RP n0 h s w) (hl : lookV s a = (z, 0)) (hp : a ≠ 1073741824) (n : Nat) : LdEnd n0 h s a w (.returned (.tuple #[.int .u32 z, .int .i64 0])) ((w.drewN n).setCell ⟨h.r, 4, none⟩ (.int .u32 z)) := by
  have hu : Upd (· = h.r) (w.drewN n) ((w.drewN n).setCell ⟨h.r, 4, none⟩ (.int .u32 z)) := (Upd.refl (· = h.r) _).setCell (p := ⟨h.r, 4, none⟩) (fun _ => rfl) _
  have hf := p.fit.loadS a
  rw [load_ok hl hp] at hf
  refine ⟨by rw [hl], ?_, (upd_drewN h.X w n).trans (hu.mono fun k e => .inl e)⟩
  rw [load_ok hl hp]
  exact (p.drewN n).nums rfl rfl rfl hf ((p.drewN n).blk.set 4 _) hu
set_option maxHeartbeats 4000000 in
set_option maxRecDepth 100000 in
theorem load (a : Int) (a0 : 0 ≤ a) (a1 : a < 4294967296) (p : RP n0 h s w) : Calls Tryd.prog 49 #[ptr h.r, .int .u32 a] w (LdEnd n0 h s a w) := by
  have c0 : w.cell? ⟨h.r, 0, none⟩ = some (.slice h.AC s.C.length h.cC) := p.blk.cell 0
  have c1 : w.cell? ⟨h.r, 1, none⟩ = some (.slice h.AW s.W.length h.cW) := p.blk.cell 1
  have c2 : w.cell? ⟨h.r, 2, none⟩ = some (.slice h.AT s.T.length h.cT) := p.blk.cell 2
  have c3 : w.cell? ⟨h.r, 3, none⟩ = some (.int .i64 s.d) := p.blk.cell 3
  have c4 : w.cell? ⟨h.r, 4, none⟩ = some (.int .u32 s.b) := p.blk.cell 4
  have f3 := p.blk.frozen 3
  have f4 := p.blk.frozen 4
  have hcl := p.fit.cl; have hwl := p.fit.wl; have htl := p.fit.tl; have hd := p.fit.d
  by_cases hodd : a % 4 = 0
  · have o1 : (a % 4 != 0) = false := by simp [hodd]
    have o2 : (a % 4 == 0) = true := by simp [hodd]
    by_cases hp : a = 1073741824
    · subst hp
      by_cases hlt : s.d < s.T.length
      · have hl : lookV s 1073741824 = (s.T.getD s.d 0, 0) := by unfold lookV; rw [if_pos rfl, if_pos hlt]
        have hls : loadS s 1073741824 = { s with d := s.d + 1, b := s.T.getD s.d 0 } := by unfold loadS; rw [hl, if_pos rfl, if_pos rfl]
        obtain ⟨g, hg, hc⟩ := p.cellT hlt
        have hgr : g ≠ h.r := fun e => p.rT (by rw [hg, e])
        have hf := p.fit.loadS 1073741824
        rw [hg] at c2
        have HL := Lib.hid hl; have HLS := Lib.hid hls; have HF := Lib.hid hf; have HP := Lib.hid p
        have hdi : (s.d : Int) < (s.T.length : Int) := by omega
        have hdi2 : (s.T.length : Int) ≤ 140737488351232 := by omega
        clear hl hls hf p hg hcl hwl htl hd hlt hodd o1 o2
        generalize s.T.getD s.d 0 = z at *
        go_enter Tryd.func49, Tryd.ntmps49
        go_wp2_with fail
        go_quiet (fail)
        go_wp2_with fail
        have HQ := Lib.hid (HP.out.drewN nq); have HU := Lib.hid (upd_drewN h.X w nq)
        have d2 : (w.drewN nq).cell? ⟨h.r, 2, none⟩ = some (.slice (some ⟨g, 0, none⟩) s.T.length h.cT) := c2
        have d3 : (w.drewN nq).cell? ⟨h.r, 3, none⟩ = some (.int .i64 s.d) := c3
        have d4 : (w.drewN nq).cell? ⟨h.r, 4, none⟩ = some (.int .u32 s.b) := c4
        have dc : (w.drewN nq).cell? ⟨g, s.d, none⟩ = some (.int .u32 z) := hc
        have g3 : (w.drewN nq).frozen? ⟨h.r, 3, none⟩ = false := f3
        have g4 : (w.drewN nq).frozen? ⟨h.r, 4, none⟩ = false := f4
        clear c0 c1 c2 c3 c4 hc f3 f4 HP
        generalize w.drewN nq = wq at *
        have hwd : IntKind.i64.wrap ((s.d : Int) + 1) = (s.d : Int) + 1 := IntWalk.i64_in _ (by omega)
        go_still_tail 19, (by kernel_rfl)
        change wpList _ _ _ _ _ wq.drew
        have HQ2 := Lib.hid HQ.out.drew; have HU2 := Lib.hid (HU.out.trans ((Upd.refl h.X wq).drew))
        have e3 : wq.drew.cell? ⟨h.r, 3, none⟩ = some (.int .i64 s.d) := d3
        have e4 : wq.drew.cell? ⟨h.r, 4, none⟩ = some (.int .u32 s.b) := d4
        have i3 : wq.drew.frozen? ⟨h.r, 3, none⟩ = false := g3
        have i4 : wq.drew.frozen? ⟨h.r, 4, none⟩ = false := g4
        clear d2 d3 d4 dc g3 g4 HQ HU
        generalize wq.drew = w2 at *
        go_wp2_with fail
        go_ret2
        have hu : Upd (· = h.r) w2 ((w2.setCell ⟨h.r, 3, none⟩ (.int .i64 ((s.d : Int) + 1))).setCell ⟨h.r, 4, none⟩ (.int .u32 z)) := ((Upd.refl (· = h.r) w2).setCell (p := ⟨h.r, 3, none⟩) (fun _ => rfl) _).setCell (p := ⟨h.r, 4, none⟩) (fun _ => rfl) _
        refine ⟨by rw [HL.out]; rfl, ?_, HU2.out.trans (hu.mono fun k e => .inl e)⟩
        have hf := HF.out
        rw [HLS.out] at hf ⊢
        exact HQ2.out.nums rfl rfl rfl hf ((HQ2.out.blk.set 3 _).set 4 _) hu
      · have hl : lookV s 1073741824 = (0, 51) := by unfold lookV; rw [if_pos rfl, if_neg hlt]
        have hE := fun n => ld_err n0 h s w p hl (by decide) n
        have hdd : s.d = s.T.length := by omega
        rw [hdd] at c3
        have HE := Lib.hid hE
        clear hE hl hdd hlt p c0 c1 c4 f3 f4 hcl hwl hd hodd o1 o2
        go_enter Tryd.func49, Tryd.ntmps49
        go_wp2_with fail
        go_quiet (fail)
        go_wp2_with fail
        go_ret2
        exact HE.out nq
    · have hpb : (a == 1073741824) = false := by simpa using hp
      by_cases hs : 536870912 ≤ a ∧ (a - 536870912) / 4 < s.W.length
      · obtain ⟨i, hi⟩ : ∃ i : Nat, a = 536870912 + 4 * i := ⟨((a - 536870912) / 4).toNat, by omega⟩
        have hil : i < s.W.length := by omega
        have hl := look_sram s a i hi hil hwl
        have hE := fun n => ld_ok n0 h s w p hl hp n
        obtain ⟨g, hg, hc, _⟩ := p.cellW hil
        rw [hg] at c1
        generalize s.W.getD i 0 = z at *
        have HE := Lib.hid hE
        have hge : decide ((536870912 : Int) ≤ a) = true := by simp; omega
        have hw1 : IntKind.u32.wrap (a - 536870912) = 4 * (i : Int) := by show (a - 536870912) % 4294967296 = _; omega
        have hw2 : (4 * (i : Int)) / 4 = (i : Int) := by omega
        have hil2 : (i : Int) < (s.W.length : Int) := by omega
        have hil3 : (s.W.length : Int) ≤ 16000 := by omega
        clear hE hl hi p hg c0 c2 c3 f3 hcl hwl htl hd hodd hs hp a1
        go_enter Tryd.func49, Tryd.ntmps49
        go_wp2_with fail
        go_ret2
        exact HE.out 0
      · obtain ⟨i, hi⟩ : ∃ i : Nat, a = 4 * i := ⟨(a / 4).toNat, by omega⟩
        have hl := look_flash s a i hi a1 hp hs hwl
        have hw2 : a / 2 = 2 * (i : Int) := by omega
        have hsr : a < 536870912 ∨ (536870912 ≤ a ∧ (s.W.length : Int) ≤ (a - 536870912) / 4) := by omega
        have hil3 : (s.W.length : Int) ≤ 16000 := by omega
        have hcl3 : (s.C.length : Int) ≤ 60000 := by omega
        have hi30 : (i : Int) < 1073741824 := by omega
        have HI := Lib.hid hi
        by_cases hc : 2 * i + 2 ≤ s.C.length
        · rw [if_pos hc] at hl
          obtain ⟨g, hg, k0⟩ := p.cellC (i := 2 * i) (by omega)
          obtain ⟨g', hg', k1⟩ := p.cellC (i := 2 * i + 1) (by omega)
          obtain rfl : g = g' := by rw [hg] at hg'; cases hg'; rfl
          rw [hg] at c0
          have b0 := Mm.getD_in p.fit.c (i := 2 * i) (by omega)
          have b1 := Mm.getD_in p.fit.c (i := 2 * i + 1) (by omega)
          have hE := fun n => ld_ok n0 h s w p hl hp n
          have hlt : a < 120000 := by omega
          have hge : decide ((536870912 : Int) ≤ a) = false := by simp; omega
          have hj : 2 * (i : Int) + 2 ≤ (s.C.length : Int) := by omega
          generalize s.C.getD (2 * i) 0 = x at *
          generalize s.C.getD (2 * i + 1) 0 = y at *
          have HE := Lib.hid hE
          clear hE hl hi p hg hg' c1 c2 c3 f3 hcl hwl htl hd hodd hs hp a1 hc hsr hlt hi30
          go_enter Tryd.func49, Tryd.ntmps49
          have w1 : IntKind.i64.wrap (2 * (i : Int) + 1) = 2 * (i : Int) + 1 := IntWalk.i64_in _ (by omega)
          have w3 : (2 * (i : Int)).toNat = 2 * i := by omega
          have w4 : (2 * (i : Int) + 1).toNat = 2 * i + 1 := by omega
          go_wp2_with fail
          go_quiet (fail)
          go_wp2_with fail
          go_ret2
          exact HE.out nq
        · rw [if_neg hc] at hl
          have hE := ld_err n0 h s w p hl (by decide) 0
          have hge : a < 536870912 ∨ 536870912 ≤ a := by omega
          have hj : decide (2 * (i : Int) + 2 ≤ (s.C.length : Int)) = false := by simp; omega
          have HE := Lib.hid hE
          have HS := Lib.hid hsr
          clear hE hl hi p c2 c3 c4 f3 f4 hcl hwl htl hd hodd hs hp a1 hc hsr
          rcases hge with hg | hg
          · have hge : decide ((536870912 : Int) ≤ a) = false := by simp; omega
            clear hg
            go_enter Tryd.func49, Tryd.ntmps49
            go_wp2_with fail
            go_ret2
            exact HE.out
          · obtain ⟨q, hq⟩ : ∃ q : Nat, a - 536870912 = q := ⟨(a - 536870912).toNat, by omega⟩
            have hq2 : (q : Int) < 4294967296 := by have := HI.out; omega
            have hw1 : IntKind.u32.wrap (a - 536870912) = (q : Int) := by show (a - 536870912) % 4294967296 = _; omega
            have hsq : decide ((q : Int) / 4 < (s.W.length : Int)) = false := by have := HS.out; simp; omega
            have hge : decide ((536870912 : Int) ≤ a) = true := by simp; omega
            have hqn : q / 4 < 1073741824 := by omega
            clear hg hq hq2
            go_enter Tryd.func49, Tryd.ntmps49
            go_wp2_with fail
            go_ret2
            exact HE.out
  · have hE := ld_err n0 h s w p (look_odd s a hodd) (by decide) 0
    have o1 : (a % 4 != 0) = true := by simp [hodd]
    have o2 : (a % 4 == 0) = false := by simp [hodd]
    have HE := Lib.hid hE
    clear hE hodd p c0 c1 c2 c3 c4 f3 f4 hcl hwl htl hd
    go_enter Tryd.func49, Tryd.ntmps49
    go_wp2_with fail
    go_ret2
    exact HE.out
end
end Go.Proofs.YtkafmpdjpjgkgaaDoor.MmR
/- DERIVED. Contracts of the reference's Store, Fetch, Same. By an AI agent. -/
namespace Go.Proofs.YtkafmpdjpjgkgaaDoor.MmR
open Go.ChangeShapes Go.WideShapes Go.ChangeAt Go.RowKit Args Mm
set_option linter.unusedVariables false
def StEnd (n0 : Nat) (h : Hd) (s : St) (a u : Int) (w : World) (e : Ending) (w' : World) : Prop := e = .returned (.int .i64 (storeE s a)) ∧ RP n0 h (storeS s a u) w' ∧ Upd h.X w w'
section
variable (n0 : Nat) (h : Hd) (s : St) (w : World)
theorem plc_yes {a : Int} (a0 : 0 ≤ a) (a1 : a < 4294967296) {n : Nat} (hn : n ≤ 16000) (h : plcB a 536870912 4 n = true) : ∃ i : Nat, i < n ∧ a = 536870912 + 4 * i ∧ (far a 536870912 / 4).toNat = i := by
  unfold plcB at h
  simp only [Bool.and_eq_true, decide_eq_true_eq] at h
  by_cases hg : 536870912 ≤ a
  · have e := far_ge hg a1 (by omega)
    rw [e] at h ⊢
    exact ⟨((a - 536870912) / 4).toNat, by omega, by omega, by omega⟩
  · have e := far_lt (show a < 536870912 by omega) a0 (by omega)
    rw [e] at h
    omega
theorem plc_nos {a : Int} (a0 : 0 ≤ a) (a1 : a < 4294967296) {n : Nat} (h : plcB a 536870912 4 n = false) : a % 4 ≠ 0 ∨ (a % 4 = 0 ∧ a < 536870912) ∨ (a % 4 = 0 ∧ 536870912 ≤ a ∧ (n : Int) ≤ (a - 536870912) / 4) := by
  by_cases h4 : a % 4 = 0
  · by_cases hg : a < 536870912
    · exact .inr (.inl ⟨h4, hg⟩)
    · have e := far_ge (show 536870912 ≤ a by omega) a1 (by omega)
      unfold plcB at h
      rw [e] at h
      simp at h
      exact .inr (.inr ⟨h4, by omega, h (by omega)⟩)
  · exact .inl h4
set_option maxHeartbeats 4000000 in
set_option maxRecDepth 100000 in
theorem store (a u : Int) (a0 : 0 ≤ a) (a1 : a < 4294967296) (hu : 0 ≤ u ∧ u < 4294967296) (p : RP n0 h s w) : Calls Tryd.prog 50 #[ptr h.r, .int .u32 a, .int .u32 u] w (StEnd n0 h s a u w) := by
  have c1 : w.cell? ⟨h.r, 1, none⟩ = some (.slice h.AW s.W.length h.cW) := p.blk.cell 1
  have hwl := p.fit.wl
  cases hb : plcB a 536870912 4 s.W.length with
  | true =>
    obtain ⟨i, hi, ha, hq⟩ := plc_yes a0 a1 hwl hb
    have e1 : storeE s a = 0 := by unfold storeE; rw [if_pos hb]
    have e2 : storeS s a u = { s with W := s.W.set i u, b := u } := by unfold storeS; rw [if_pos hb, hq]
    obtain ⟨g, hg, hc, hfz⟩ := p.cellW hi
    have hgr : g ≠ h.r := fun e => p.rW (by rw [← e]; exact hg)
    have hend : ∀ w1 : World, RP n0 h { s with W := s.W.set i u, b := u } w1 → Upd h.X w w1 → StEnd n0 h s a u w (.returned (.int .i64 0)) w1 := fun w1 h1 h2 => ⟨by rw [e1], by rw [e2]; exact h1, h2⟩
    obtain ⟨p2, u2⟩ := p.word hg i u hu
    have hfit := p.fit.storeS a hu
    rw [e2] at hfit
    rw [hg] at c1
    have c4 : w.cell? ⟨h.r, 4, none⟩ = some (.int .u32 s.b) := p.blk.cell 4
    have f4 := p.blk.frozen 4
    generalize s.W.getD i 0 = z at *
    have HE := Lib.hid hend; have HP2 := Lib.hid p2; have HU2 := Lib.hid u2; have HF := Lib.hid hfit
    have o1 : (a % 4 != 0) = false := by simp; omega
    have hge : decide (a < (536870912 : Int)) = false := by simp; omega
    have hw1 : IntKind.u32.wrap (a - 536870912) = 4 * (i : Int) := by show (a - 536870912) % 4294967296 = _; omega
    have hw2 : (4 * (i : Int)) / 4 = (i : Int) := by omega
    have hil2 : (i : Int) < (s.W.length : Int) := by omega
    have hil3 : (s.W.length : Int) ≤ 16000 := by omega
    clear p hg e1 e2 hend p2 u2 hfit hb ha hq hwl a1
    generalize s.W.length = nW at *
    go_enter Tryd.func50, Tryd.ntmps50
    go_wp2_with fail
    go_ret
    have hu3 : Upd (· = h.r) (w.setCell ⟨g, i, none⟩ (.int .u32 u)) ((w.setCell ⟨g, i, none⟩ (.int .u32 u)).setCell ⟨h.r, 4, none⟩ (.int .u32 u)) := (Upd.refl (· = h.r) _).setCell (p := ⟨h.r, 4, none⟩) (fun _ => rfl) _
    exact HE.out _ (HP2.out.nums (s' := { s with W := s.W.set i u, b := u }) rfl rfl rfl HF.out (HP2.out.blk.set 4 _) hu3) (HU2.out.trans (hu3.mono fun k e => .inl e))
  | false =>
    have e1 : storeE s a = 50 := by unfold storeE; rw [if_neg (by simp [hb])]
    have e2 : storeS s a u = s := by unfold storeS; rw [if_neg (by simp [hb])]
    have hend : StEnd n0 h s a u w (.returned (.int .i64 50)) w := ⟨by rw [e1], by rw [e2]; exact p, Upd.refl _ _⟩
    have HE := Lib.hid hend
    rcases plc_nos a0 a1 hb with h4 | ⟨h4, hl⟩ | ⟨h4, hg, hq⟩
    · have o1 : (a % 4 != 0) = true := by simp [h4]
      clear p e1 e2 hend h4 hb hwl a1
      go_enter Tryd.func50, Tryd.ntmps50
      go_wp2_with fail
      go_ret
      exact HE.out
    · have o1 : (a % 4 != 0) = false := by simp [h4]
      have hge : decide (a < (536870912 : Int)) = true := by simp; omega
      clear p e1 e2 hend h4 hb hwl a1 hl
      go_enter Tryd.func50, Tryd.ntmps50
      go_wp2_with fail
      go_ret
      exact HE.out
    · have o1 : (a % 4 != 0) = false := by simp [h4]
      have hge : decide (a < (536870912 : Int)) = false := by simp; omega
      obtain ⟨q, hq0⟩ : ∃ q : Nat, a - 536870912 = q := ⟨(a - 536870912).toNat, by omega⟩
      have hw1 : IntKind.u32.wrap (a - 536870912) = (q : Int) := by show (a - 536870912) % 4294967296 = _; omega
      have hsq : (s.W.length : Int) ≤ (q : Int) / 4 := by omega
      have hqn : q / 4 < 1073741824 := by omega
      clear p e1 e2 hend h4 hb hwl a1 hg hq hq0
      go_enter Tryd.func50, Tryd.ntmps50
      go_wp2_with fail
      go_ret
      exact HE.out
set_option maxHeartbeats 4000000 in
theorem fetch (a : Int) (a0 : 0 ≤ a) (a1 : a < 4294967296) (p : RP n0 h s w) : Calls Tryd.prog 32 #[ptr h.r, .int .u32 a] w (Qt (.tuple #[.int .u16 (fetchV s a).1, .int .i64 (fetchV s a).2]) w) := by
  have c0 : w.cell? ⟨h.r, 0, none⟩ = some (.slice h.AC s.C.length h.cC) := p.blk.cell 0
  have hcl := p.fit.cl
  have ef : far a 0 = a := by unfold far; omega
  by_cases h2 : a % 2 = 0
  · have o1 : (a % 2 != 0) = false := by simp [h2]
    obtain ⟨i, hi⟩ : ∃ i : Nat, a = 2 * i := ⟨(a / 2).toNat, by omega⟩
    have hd : a / 2 = (i : Int) := by omega
    have hil3 : (s.C.length : Int) ≤ 60000 := by omega
    by_cases hlt : i < s.C.length
    · have hb : plcB a 0 2 s.C.length = true := by unfold plcB; rw [ef]; simp; omega
      have e : fetchV s a = (s.C.getD i 0, 0) := by unfold fetchV; rw [if_pos hb, ef, hd]; rfl
      rw [e]
      obtain ⟨g, hg, hc⟩ := p.cellC hlt
      rw [hg] at c0
      have hil2 : (i : Int) < (s.C.length : Int) := by omega
      generalize s.C.getD i 0 = z at *
      generalize s.C.length = nC at *
      generalize h.r = r at *
      clear p e hg hb ef hi h2 hlt hcl a1
      go_enter Tryd.func32, Tryd.ntmps32
      go_wp2_with fail
      go_ret2
      exact Qt.same _ _
    · have hb : plcB a 0 2 s.C.length = false := plc_no (.inr (by rw [ef]; omega))
      have e : fetchV s a = (0, 50) := by unfold fetchV; rw [if_neg (by simp [hb])]
      rw [e]
      have hil2 : (s.C.length : Int) ≤ (i : Int) := by omega
      have hi30 : i < 2147483648 := by omega
      clear p e hb ef hi h2 hlt hcl a1
      go_enter Tryd.func32, Tryd.ntmps32
      go_wp2_with fail
      go_ret2
      exact Qt.same _ _
  · have hb : plcB a 0 2 s.C.length = false := plc_no (.inl (by rw [ef]; omega))
    have e : fetchV s a = (0, 50) := by unfold fetchV; rw [if_neg (by simp [hb])]
    rw [e]
    have o1 : (a % 2 != 0) = true := by simp [h2]
    clear p e hb ef h2 hcl a1
    go_enter Tryd.func32, Tryd.ntmps32
    go_wp2_with fail
    go_ret2
    exact Qt.same _ _
end
set_option maxHeartbeats 2000000 in
theorem same (A B : Option Addr) (c d : Nat) (zs : List Int) (w : World) (hA : Lies w A (zs.map (.int .u32))) (hB : Lies w B (zs.map (.int .u32))) (hl : zs.length ≤ 100000) :
    Calls Tryd.prog 19 #[.slice A zs.length c, .slice B zs.length d] w fun e w' => e = .returned (.bool true) ∧ Below w.heap.size w w' := by
  have HA := Lib.hid hA; have HB := Lib.hid hB
  clear hA hB
  go_enter Tryd.func19, Tryd.ntmps19
  go_wp2_with fail
  go_loopw [5] (fun vi wr => ∃ k : Nat, k ≤ zs.length ∧ vi = .int .i64 k ∧ Hid (Below w.heap.size w wr)) (fun vi _ => zs.length - (intOf vi).toNat)
  case atStart => exact ⟨0, by omega, rfl, Lib.hid (Below.refl _ _)⟩
  case round =>
    obtain ⟨k, hk, rfl, HH⟩ := hrel
    by_cases hlt : k < zs.length
    · have f1 : (zs.map (Value.int .u32))[k]? = some (.int .u32 (zs[k]'hlt)) := by simp [List.getElem?_eq_getElem hlt]
      generalize zs[k]'hlt = z at f1
      obtain ⟨b, o, rfl, _, hc⟩ := (HA.out.below HH.out).at_ f1
      obtain ⟨b', o', rfl, _, hc'⟩ := (HB.out.below HH.out).at_ f1
      have e1 := hc _ _ f1
      have e2 := hc' _ _ f1
      clear hc hc' f1
      go_wp2_with fail
      go_quiet (fail)
      go_wp2_with fail
      go_roundw
      case rel => exact ⟨k + 1, by omega, by go_num, Lib.hid (HH.out.trans (Below.mono (show Ext _ _ from Upd.below (upd_drewN (fun _ => False) wr nq) (Nat.le_refl _) nofun) HH.out.size))⟩
      case measure => simp [intOf]; omega
    · go_wp2_with fail
      go_ret
      exact ⟨rfl, HH.out⟩
end Go.Proofs.YtkafmpdjpjgkgaaDoor.MmR
