/- DERIVED. LkBoth in one text. By an AI agent. -/
import Derived.Test.YtcigchpcffpemaaDoorZ31
/- DERIVED. The contract of the law's both. By an AI agent. -/
namespace Go.Proofs.YtcigchpcffpemaaDoor.Lk
open Go.ChangeShapes Go.WideShapes Go.ChangeAt Go.RowKit WMath Word Ref Args Mm MmR Co
set_option linter.unusedVariables false
set_option linter.unusedSimpArgs false
/-- Both memories, over one state. -/
def BothEnd (C : List Int) (a0 a1 a2 a3 : BitVec 32) (W : World) (e : Ending) (w' : World) : Prop :=
  ∃ (h h' : Hd) (n1 n2 : Nat), e = .returned (.tuple #[ptr h.r, ptr h'.r]) ∧ Bo W n1 n2 h h' (mset (af a0 a1 a2 a3) 4 ⟨C, noughts 4, [7, 8], 0, 0⟩) w'
set_option maxRecDepth 100000 in
set_option maxHeartbeats 8000000 in
theorem both (AC : Option Addr) (cC : Nat) (C : List Int) (a0 a1 a2 a3 : BitVec 32) (W : World) (hC : Lies W AC (C.map (.int .u16))) (hl : C.length ≤ 10) (hc : C.length ≤ cC) (hcm : cC ≤ maxLen) (hf : Fit ⟨C, noughts 4, [7, 8], 0, 0⟩) :
    Calls Tryd.prog 11 #[.slice AC C.length cC, .agg #[u a0, u a1, u a2, u a3]] W (BothEnd C a0 a1 a2 a3 W) := by
  obtain ⟨i0, hi, hz0, hz1, hz2⟩ := info_parts info16
  have HI := Lib.hid hi; have HZ0 := Lib.hid hz0; have HZ1 := Lib.hid hz1; have HZ2 := Lib.hid hz2
  have hx0 : Below W.heap.size W (W.alloc (.cells #[u a0, u a1, u a2, u a3] 28)) := (Below.refl _ _).alloc (Nat.le_refl _) _
  have HK0 := Lib.hid (Blk.new W 28 #[u a0, u a1, u a2, u a3])
  have HC0 := Lib.hid (hC.below hx0)
  have HB0 := Lib.hid hx0; have HF := Lib.hid hf; have L1 := Lib.hid hl; have HLC := Lib.hid hc; have HLCM := Lib.hid hcm
  clear hi hz0 hz1 hz2 hx0 hC hf hl hc hcm
  go_enter Tryd.func11, Tryd.ntmps11
  go_upto_region 1 with fail
  generalize W.alloc (.cells #[u a0, u a1, u a2, u a3] 28) = w0 at *
  go_wp2_with (at_builtin; refine wpList_fresh rfl (.tmp 9) (.tmp 10) 38 rfl w0.heap.size 29 i0 (.int .u16 0) 1 2 Tryd.underlying38 HI.out HZ0.out HZ1.out HZ2.out rfl (by decide) _ 0 [] rfl (own_empty w0 (Nat.le_refl _) _ _) AC C.length cC (C.map (.int .u16)) rfl (by rw [List.length_map, Nat.mul_one]) (HC0.out.below ((Below.refl w0.heap.size w0).alloc (Nat.le_refl _) _)) (ints_one _ _) (by unfold maxLen; have := L1.out; omega) (by have := L1.out; omega) (by simp) ?_; intro A1 c1 w1 h1 h2 h3 h4; simp only [Nat.zero_add, List.nil_append] at h1 h3; have HO1 := Lib.hid h3; have HB1 := Lib.hid (fresh_ext h4); have HQ1 := Lib.hid h1; have HR1 := Lib.hid h2; clear h1 h2 h3 h4; rw [Nat.zero_add])
  refine (new_c A1 c1 C 4 (some ⟨w1.heap.size, 0, none⟩) 2 [7, 8] _ ((lies_own HO1.out).below ((Below.refl _ _).alloc (Nat.le_refl _) _)) (lies_new w1 .u32 24 [7, 8]) HQ1.out HR1.out HF.out (by decide)).mono ?_
  rintro e w4 ⟨h, rfl, hp4, hx4⟩
  have hx1 : Below w1.heap.size w1 w4 := ((Below.refl _ _).alloc (Nat.le_refl _) _).trans (hx4.mono (by simp))
  have HP4 := Lib.hid (show PP (w1.heap.size + 1) h ⟨C, noughts 4, [7, 8], 0, 0⟩ w4 from by have := hp4; simpa only [World.size_alloc] using this)
  have HSZ := Lib.hid (show w1.heap.size + 1 ≤ w4.heap.size from by have := hx4.size; simpa only [World.size_alloc] using this)
  have HE4 := Lib.hid (Ext.trans HB1.out hx1)
  clear hp4 hx4 hx1
  go_wp2_with fail
  refine (MmR.new_ AC cC C (some ⟨w4.heap.size, 0, none⟩) 2 [7, 8] _ ((HC0.out.below HE4.out).below ((Below.refl _ _).alloc (Nat.le_refl _) _)) (lies_new w4 .u32 24 [7, 8]) (by have := L1.out; omega) (by decide) HF.out).mono ?_
  rintro e w5 ⟨h', rfl, hr5, hx5⟩
  have hx4 : Below w4.heap.size w4 w5 := ((Below.refl _ _).alloc (Nat.le_refl _) _).trans (hx5.mono (by simp))
  have HE5 := Lib.hid (Ext.trans HE4.out hx4)
  have hq : W.heap.size < w1.heap.size + 1 := by have h1 := HK0.out.lt; have h2 := Below.size HB1.out; omega
  have HQ := Lib.hid hq
  have HB := Lib.hid (show Bo W (w1.heap.size + 1) (w4.heap.size + 1) h h' ⟨C, noughts 4, [7, 8], 0, 0⟩ w5 from ⟨PM.below HP4.out hx4, by have := hr5; simpa only [World.size_alloc] using this, Below.trans HB0.out (Below.mono HE5.out (Below.size HB0.out)), fun k hk => Nat.lt_succ_of_lt (HP4.out.lt hk).2, Nat.le_of_lt hq, by have := HSZ.out; omega⟩)
  have HK := Lib.hid (Blk.below HK0.out HE5.out HK0.out.lt)
  clear hr5 hx5 hx4 HP4 HSZ HE4 HE5 HC0 HB0 HK0 HO1 HB1 HQ1 HR1 HI HZ0 HZ1 HZ2 hq L1 HLC HLCM HF
  generalize w1.heap.size + 1 = n1 at *
  generalize w4.heap.size + 1 = n2 at *
  have HM0 := Lib.hid (show (⟨C, noughts 4, [7, 8], 0, 0⟩ : St).W.length = 4 from noughts_len 4)
  have HEND := Lib.hid (show ∀ (v : Value) (w' : World), v = .tuple #[ptr h.r, ptr h'.r] → Bo W n1 n2 h h' (mset (af a0 a1 a2 a3) 4 ⟨C, noughts 4, [7, 8], 0, 0⟩) w' → BothEnd C a0 a1 a2 a3 W (.returned v) w' from fun v w' hv hb => ⟨h, h', n1, n2, by rw [hv], hb⟩)
  generalize hm0 : (⟨C, noughts 4, [7, 8], 0, 0⟩ : St) = m0 at *
  clear hm0
  go_wp2_with fail
  go_loopw [8] (fun vk wr => ∃ k : Nat, k ≤ 4 ∧ vk = .int .i64 k ∧ Hid (Bo W n1 n2 h h' (mset (af a0 a1 a2 a3) k m0) wr) ∧ Hid (Blk wr W.heap.size 28 #[u a0, u a1, u a2, u a3])) (fun vk _ => 4 - (intOf vk).toNat)
  case atStart => exact ⟨0, by omega, rfl, HB, HK⟩
  case round =>
    clear HB HK
    obtain ⟨k, hk, rfl, HI, HL⟩ := hrel
    have hlen : (mset (af a0 a1 a2 a3) k m0).W.length = 4 := by rw [mset_len]; exact HM0.out
    by_cases hlt : k < 4
    · have hst : mset (af a0 a1 a2 a3) (k + 1) m0 = setS (mset (af a0 a1 a2 a3) k m0) k ((af a0 a1 a2 a3 k).toNat : Int) := rfl
      have hse := set_in_len (mset (af a0 a1 a2 a3) k m0) k ((af a0 a1 a2 a3 k).toNat : Int) (by omega)
      have hca : wr.cell? ⟨W.heap.size, k, none⟩ = some (u (af a0 a1 a2 a3 k)) := (HL.out.cell k).trans (af_get a0 a1 a2 a3 k hlt)
      generalize mset (af a0 a1 a2 a3) k m0 = mk at *
      generalize af a0 a1 a2 a3 k = ak at *
      have HST := Lib.hid hst; have HSE := Lib.hid hse; have HLEN := Lib.hid hlen; have HLT := Lib.hid hlt
      have hk4 : (k : Int) < 4 := by omega
      have hk0 : (0 : Int) ≤ (k : Int) := by omega
      clear hst hse hlen hlt
      go_wp2_with fail
      refine (Mm.set n1 h mk wr (k : Int) (ak.toNat : Int) ⟨by omega, bd ak⟩ HI.out.p).mono ?_
      rintro e w6 ⟨rfl, hp6, hu6⟩
      have HP6 := Lib.hid hp6; have HU6 := Lib.hid hu6
      have HR6 := Lib.hid (HI.out.r.upd hu6 HI.out.pr)
      have HL6 := Lib.hid (HI.out.box1 HL.out HQ.out hu6)
      obtain ⟨g, hg, hc, hfz⟩ := HR6.out.cellW (i := k) (by rw [HLEN.out]; exact HLT.out)
      have e1 : w6.cell? ⟨h'.r, 1, none⟩ = some (.slice (some ⟨g, 0, none⟩) mk.W.length h'.cW) := by rw [← hg]; exact HR6.out.blk.cell 1
      have hca6 : w6.cell? ⟨W.heap.size, k, none⟩ = some (u ak) := by
        rw [← hca]; exact hu6.cell (p := ⟨W.heap.size, k, none⟩) HL.out.lt (fun hx => by have h1 := HI.out.p.X_low _ hx; have h2 := HQ.out; simp only at h1; omega)
      have hkw : (k : Int) < (mk.W.length : Int) := by rw [HLEN.out]; exact hk4
      have HG := Lib.hid hg
      clear hp6 hu6 hg hca
      go_wp2_with fail
      go_still_tail 9, (by kernel_rfl)
      change wpList _ _ _ _ _ w6.drew
      have hwd := HR6.out.drew.word HG.out k (ak.toNat : Int) ⟨by omega, bd ak⟩
      have hgq : g ≠ W.heap.size := by
        have h1 := (HR6.out.lt (.inr (.inr (.inl HG.out)))).1
        have h2 := HQ.out; have h3 := HI.out.l2
        omega
      have HIN := Lib.hid (show Bo W n1 n2 h h' (mset (af a0 a1 a2 a3) (k + 1) m0) (w6.drew.setCell ⟨g, k, none⟩ (u ak)) from by
        rw [HST.out]
        exact Bo.both HI.out HP6.out HU6.out (by rw [HSE.out]; exact hwd.1) (((Upd.refl h'.X w6).drew).trans hwd.2))
      have HLN := Lib.hid (show Blk (w6.drew.setCell ⟨g, k, none⟩ (u ak)) W.heap.size 28 #[u a0, u a1, u a2, u a3] from Blk.upd (w := w6.drew) HL6.out (upd_set w6.drew g k (u ak) (Upd.refl _ _)) (fun e => hgq e.symm))
      have k1 : w6.drew.cell? ⟨g, k, none⟩ = some (.int .u32 (mk.W.getD k 0)) := hc
      have k2 : w6.drew.frozen? ⟨g, k, none⟩ = false := hfz
      clear hwd hc hfz e1 hca6 HP6 HU6 HR6 HL6
      generalize w6.drew = w7 at *
      go_wp2_with fail
      go_roundw
      case rel => exact ⟨k + 1, by have := HLT.out; omega, by go_num, HIN, HLN⟩
      case measure => have := HLT.out; simp [intOf]; omega
    · obtain rfl : k = 4 := by omega
      clear hlt hk hlen
      go_wp2_with fail
      go_ret2
      exact HEND.out _ _ rfl HI.out
end Go.Proofs.YtcigchpcffpemaaDoor.Lk
