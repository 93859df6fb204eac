/- DERIVED. CoRn in one text. By an AI agent. -/
import Derived.Test.YtkipfeljpngkeaaDoorZ30
import Derived.Deep.DeepCutAuto
import Derived.Deep.RegionHeld3
/- DERIVED. The walk of CoreRuns. By an AI agent. -/
namespace Go.Proofs.YtkipfeljpngkeaaDoor.Co
open Go.ChangeShapes Go.WideShapes Go.ChangeAt Go.RowKit WMath Word Ref Args Mm MmR
set_option linter.unusedVariables false
set_option linter.unusedSimpArgs false
/-- With a stop or an error the state stays. -/
theorem stepV_stay (s : S) (m : St) (h : (stepV s m).2.1 = true ∨ (stepV s m).2.2.1 ≠ 0) : (stepV s m).1 = s := by
  unfold stepV at h ⊢
  split
  · rename_i h0
    rw [if_pos h0] at h
    split
    · rename_i h1
      rw [if_pos h1] at h
      split
      · rfl
      · rename_i h2
        rw [if_neg h2] at h
        split
        · rename_i h3
          rw [if_pos h3] at h
          rcases h with h | h
          · exact absurd h Bool.false_ne_true
          · exact absurd rfl h
        · rfl
    · rfl
  · rfl
/-- A box ahead of both, written. -/
theorem Bo.upd1 {W w w1 : World} {n1 n2 q : Nat} {h h' : Hd} {m : St} (i : Bo W n1 n2 h h' m w) (hq : q < n1) (hW : W.heap.size ≤ q) (hu : Upd (· = q) w w1) : Bo W n1 n2 h h' m w1 :=
  ⟨i.p.upd hu fun k hk e => by have := (i.p.lt hk).1; omega, i.r.upd hu fun k hk e => by have := (i.r.lt hk).1; have := i.l2; omega, upd_low i.lo hu hW, i.sep, i.l1, i.l2⟩
theorem Bo.one {W w : World} {n1 n2 : Nat} {h h' : Hd} {m : St} (i : Bo W n1 n2 h h' m w) (hq : W.heap.size < n1) (j : Nat) (v : Value) : Bo W n1 n2 h h' m (w.setCell ⟨W.heap.size, j, none⟩ v) := i.upd1 hq (Nat.le_refl _) (upd_set w _ j v (Upd.refl _ w))
set_option maxRecDepth 100000 in
set_option maxHeartbeats 8000000 in
theorem runs (rstep : ∀ (s : S) (n0 : Nat) (h : Hd) (m : St) (w : World), RP n0 h m w → Calls Tryd.prog 14 #[sv s, ptr h.r] w (RpEnd n0 h (stepV s m) w)) (W : World) (AC : Option Addr) (cC : Nat) (C : List Int) (s : S) (AT : Option Addr) (cT : Nat) (T : List Int) (hT : Tp.Tb W)
    (hC : Lies W AC (C.map (.int .u16))) (hD : Lies W AT (T.map (.int .u32))) (hc : C.length ≤ cC) (hcm : cC ≤ maxLen) (ht : T.length ≤ cT) (htm : cT ≤ maxLen) (hf : Fit ⟨C.take 60, noughts 4, T.take 30, 0, 0⟩) :
    Calls Tryd.prog 4 #[.slice AC C.length cC, sv s, .slice AT T.length cT] W fun e w' => e = .returned (.bool true) ∧ Below W.heap.size W w' := by
  have l1 : (C.take 60).length ≤ 60 := by rw [List.length_take]; omega
  have l3 : (T.take 30).length ≤ 30 := by rw [List.length_take]; omega
  have l2 : (C.take 60).length ≤ cC := by rw [List.length_take]; omega
  have l4 : (T.take 30).length ≤ cT := by rw [List.length_take]; omega
  have e1 : C.length ≤ 60 → (C.take 60).length = C.length := fun h => by rw [List.length_take]; omega
  have e2 : 60 < C.length → (C.take 60).length = 60 := fun h => by rw [List.length_take]; omega
  have e3 : T.length ≤ 30 → (T.take 30).length = T.length := fun h => by rw [List.length_take]; omega
  have e4 : 30 < T.length → (T.take 30).length = 30 := fun h => by rw [List.length_take]; omega
  have hcl := lies_take hC 60
  have hdl := lies_take hD 30
  generalize C.take 60 = C1 at l1 l2 e1 e2 hcl hf
  generalize T.take 30 = T1 at l3 l4 e3 e4 hdl hf
  obtain ⟨i0, hi, hz0, hz1, hz2⟩ := info_parts info16
  obtain ⟨j0, hj, hy0, hy1, hy2⟩ := info_parts info32
  have HI := Lib.hid hi; have HZ0 := Lib.hid hz0; have HZ1 := Lib.hid hz1; have HZ2 := Lib.hid hz2
  have HJ := Lib.hid hj; have HY0 := Lib.hid hy0; have HY1 := Lib.hid hy1; have HY2 := Lib.hid hy2
  have HE1 := Lib.hid e1; have HE2 := Lib.hid e2; have HE3 := Lib.hid e3; have HE4 := Lib.hid e4
  have hca : 60 < C.length → ∃ b o, AC = some ⟨b, o, none⟩ := fun h => lies_addr hC (by omega)
  have hta : 30 < T.length → ∃ b o, AT = some ⟨b, o, none⟩ := fun h => lies_addr hD (by omega)
  have hx0 : Below W.heap.size W (W.alloc (.cells (sC s) 27)) := (Below.refl _ _).alloc (Nat.le_refl _) _
  have HL0 := Lib.hid (Blk.new W 27 (sC s))
  have HC0 := Lib.hid (hcl.below hx0)
  have HD0 := Lib.hid (hdl.below hx0)
  have HT := Lib.hid hT; have HB0 := Lib.hid hx0; have HF := Lib.hid hf
  have HCA := Lib.hid hca; have HTA := Lib.hid hta
  have HLC := Lib.hid hc; have HLCM := Lib.hid hcm; have HLT := Lib.hid ht; have HLTM := Lib.hid htm
  have L1 := Lib.hid l1; have L2 := Lib.hid l2; have L3 := Lib.hid l3; have L4 := Lib.hid l4
  clear hcl hdl hi hz0 hz1 hz2 hj hy0 hy1 hy2 l1 l2 l3 l4 e1 e2 e3 e4 hca hta hx0 hC hD hT hf hc hcm ht htm
  obtain ⟨w0, hw0⟩ : ∃ w0, W.alloc (.cells (sC s) 27) = w0 := ⟨_, rfl⟩
  rw [hw0] at HL0 HC0 HD0 HB0
  have HW0 := Lib.hid hw0
  clear hw0
  go_enter Tryd.func4, Tryd.ntmps4
  go_upto_region 1 with fail
  rw [show W.alloc (.cells #[.int .u32 (s.r 0).toNat, .int .u32 (s.r 1).toNat, .int .u32 (s.r 2).toNat, .int .u32 (s.r 3).toNat, .int .u32 (s.r 4).toNat, .int .u32 (s.r 5).toNat, .int .u32 (s.r 6).toNat, .int .u32 (s.r 7).toNat, .int .u32 s.pc.toNat, .bool s.n, .bool s.z, .bool s.c, .bool s.v] 27) = w0 from HW0.out]
  go_upto_if 18 with fail
  go_cut [0] (fun v wx => v = .slice AC C1.length cC ∧ w0 = wx)
  case first =>
    by_cases hl : 60 < C.length
    · obtain ⟨b, o, rfl⟩ := HCA.out hl
      have hl2 : (60 : Int) < (C.length : Int) := by omega
      have hl3 : (60 : Int) ≤ (cC : Int) := by have := HLC.out; omega
      have E := Lib.hid (HE2.out hl)
      clear hl
      go_wp2_with fail
      go_meet
      case rel => exact ⟨by rw [E.out], rfl⟩
    · have hl2 : decide ((60 : Int) < (C.length : Int)) = false := by simp; omega
      have hl5 : ¬ (60 : Int) < (C.length : Int) := by omega
      have E := Lib.hid (HE1.out (by omega))
      clear hl
      go_wp2_with fail
      go_meet
      case rel => exact ⟨by rw [E.out], rfl⟩
  case rest =>
  obtain ⟨rfl, rfl⟩ := hcut
  go_upto_if 23 with fail
  go_cut [2] (fun v wx => v = .slice AT T1.length cT ∧ w0 = wx)
  case first =>
    by_cases hl : 30 < T.length
    · obtain ⟨b, o, rfl⟩ := HTA.out hl
      have hl2 : (30 : Int) < (T.length : Int) := by omega
      have hl3 : (30 : Int) ≤ (cT : Int) := by have := HLT.out; omega
      have E := Lib.hid (HE4.out hl)
      clear hl
      go_wp2_with fail
      go_meet
      case rel => exact ⟨by rw [E.out], rfl⟩
    · have hl2 : decide ((30 : Int) < (T.length : Int)) = false := by simp; omega
      have hl5 : ¬ (30 : Int) < (T.length : Int) := by omega
      have E := Lib.hid (HE3.out (by omega))
      clear hl
      go_wp2_with fail
      go_meet
      case rel => exact ⟨by rw [E.out], rfl⟩
  case rest =>
  obtain ⟨rfl, rfl⟩ := hcut
  clear HE1 HE2 HE3 HE4 HCA HTA HLC HLT HW0 HLCM HLTM L2 L4
  go_wp2_with (first | (at_builtin; refine wpList_fresh rfl (.tmp 26) (.tmp 27) 34 rfl w0.heap.size 29 i0 (.int .u16 0) 1 2 Tryd.underlying34 HI.out HZ0.out HZ1.out HZ2.out rfl (by decide) _ 0 [] rfl (own_empty w0 (Nat.le_refl _) _ _) AC C1.length cC (C1.map (.int .u16)) rfl (by rw [List.length_map, Nat.mul_one]) (HC0.out.below ((Below.refl w0.heap.size w0).alloc (Nat.le_refl _) _)) (ints_one _ _) (by unfold maxLen; have := L1.out; omega) (by have := L1.out; omega) (by simp) ?_; intro A1 c1 w1 h1 h2 h3 h4; simp only [Nat.zero_add, List.nil_append] at h1 h3; have HO1 := Lib.hid h3; have HB1 := Lib.hid (fresh_ext h4); have HQ1 := Lib.hid h1; have HR1 := Lib.hid h2; clear h1 h2 h3 h4; rw [Nat.zero_add]) | (at_builtin; refine wpList_fresh rfl (.tmp 29) (.tmp 30) 37 rfl w1.heap.size 24 j0 (.int .u32 0) 1 4 Tryd.underlying37 HJ.out HY0.out HY1.out HY2.out rfl (by decide) _ 0 [] rfl (own_empty w1 (Nat.le_refl _) _ _) AT T1.length cT (T1.map (.int .u32)) rfl (by rw [List.length_map, Nat.mul_one]) ((HD0.out.below HB1.out).below ((Below.refl w1.heap.size w1).alloc (Nat.le_refl _) _)) (ints_one _ _) (by unfold maxLen; have := L3.out; omega) (by have := L3.out; omega) (by simp) ?_; intro A3 c3 w3 h1 h2 h3 h4; simp only [Nat.zero_add, List.nil_append] at h1 h3; have HO3 := Lib.hid h3; have HB3 := Lib.hid (fresh_ext h4); have HQ3 := Lib.hid h1; have HR3 := Lib.hid h2; clear h1 h2 h3 h4; rw [Nat.zero_add]))
  refine (new_c A1 c1 C1 4 A3 c3 T1 w3 ((lies_own HO1.out).below HB3.out) (lies_own HO3.out) HQ1.out HR1.out HF.out (by have := L3.out; omega)).mono ?_
  rintro e w4 ⟨h, rfl, hp4, hx4⟩
  have HE4 := Lib.hid (HB1.out.trans (HB3.out.trans hx4))
  have HS4 := Lib.hid (HL0.out.lt)
  have HX4 := Lib.hid (Ext.trans HB1.out HB3.out)
  have HP4 := Lib.hid hp4; have HZ4 := Lib.hid hx4
  clear hp4 hx4
  go_wp2_with fail
  refine (MmR.new_ AC cC C1 AT cT T1 w4 (HC0.out.below HE4.out) (HD0.out.below HE4.out) (by have := L1.out; omega) (by have := L3.out; omega) HF.out).mono ?_
  rintro e w5 ⟨h', rfl, hr5, hx5⟩
  have HQ := Lib.hid (show W.heap.size < w3.heap.size from Nat.lt_of_lt_of_le HS4.out (Below.size HX4.out))
  have HI0 := Lib.hid (show Bo W w3.heap.size w4.heap.size h h' ⟨C1, noughts 4, T1, 0, 0⟩ w5 from ⟨PM.below HP4.out hx5, hr5, Below.trans HB0.out (Below.mono (Ext.trans HE4.out hx5) (Below.size HB0.out)), fun k hk => (HP4.out.lt hk).2, Nat.le_of_lt HQ.out, Below.size HZ4.out⟩)
  have HL5 := Lib.hid (Blk.below HL0.out (Ext.trans HE4.out hx5) HS4.out)
  have HM0 := Lib.hid (show (⟨C1, noughts 4, T1, 0, 0⟩ : St).W.length = 4 from noughts_len 4)
  clear hr5 hx5 HE4 HX4 HP4 HZ4 HF HS4 HO1 HO3 HB1 HB3 HQ1 HQ3 HR1 HR3 HC0 HD0 HL0 HB0 HI HZ0 HZ1 HZ2 HJ HY0 HY1 HY2
  generalize w3.heap.size = n1 at *
  generalize w4.heap.size = n2 at *
  generalize (⟨C1, noughts 4, T1, 0, 0⟩ : St) = m0 at *
  have n8 : w5.cell? ⟨W.heap.size, 8, none⟩ = some (u s.pc) := HL5.out.cell 8
  have f8 : w5.frozen? ⟨W.heap.size, 8, none⟩ = false := HL5.out.frozen 8
  go_upto_region 9 with fail
  have HI := Lib.hid (HI0.out.one HQ.out 8 (u 0#32))
  have HL := Lib.hid (blk_one (cs' := sC (s.to 0#32)) HL5.out 8 (u 0#32) rfl)
  obtain ⟨w6, hw6⟩ : ∃ w6, w5.setCell ⟨W.heap.size, 8, none⟩ (.int .u32 0) = w6 := ⟨_, rfl⟩
  rw [hw6]
  have hw6' : w5.setCell ⟨W.heap.size, 8, none⟩ (u 0#32) = w6 := hw6
  rw [hw6'] at HI HL
  clear hw6 hw6' n8 f8 HI0 HL5
  obtain ⟨s0, hs0⟩ : ∃ s0, s.to 0#32 = s0 := ⟨_, rfl⟩
  rw [hs0] at HL
  clear hs0
  go_wp2_with fail
  go_loopw [9] (fun vk wr => ∃ (k : Nat) (sx : S) (mx : St), k ≤ 80 ∧ vk = .int .i64 k ∧ Hid (Bo W n1 n2 h h' mx wr) ∧ Hid (Blk wr W.heap.size 27 (sC sx)) ∧ Hid (mx.W.length = 4)) (fun vk _ => 80 - (intOf vk).toNat)
  case atStart => exact ⟨0, s0, m0, by omega, rfl, HI, HL, HM0⟩
  case round =>
    clear HI HL HM0
    obtain ⟨k, sx, mx, hk, rfl, HI, HL, HM⟩ := hrel
    by_cases hlt : k < 80
    · have hk8 : (k : Int) < 80 := by omega
      rcases hq : stepV sx mx with ⟨x, st, er, m2⟩
      have hst := stepV_stay sx mx
      have hcs := cstep sx n1 h mx wr HI.out.p (HT.out.below HI.out.lo)
      have hrs := fun w p => rstep sx n2 h' mx w p
      have hl2 := stepV_len sx mx
      rw [hq] at hcs hrs hl2 hst
      have HM2 := Lib.hid (show m2.W.length = 4 from by have h1 : m2.W.length = mx.W.length := hl2; have := HM.out; omega)
      have HM3 := Lib.hid (show m2.W.length ≤ 100000 from by have := HM2.out; omega)
      have HST := Lib.hid (show st = true ∨ er ≠ 0 → x = sx from hst)
      have HLT := Lib.hid hlt
      have HCS := Lib.hid hcs; have HRS := Lib.hid hrs
      clear hcs hrs hq hl2 hst hlt
      obtain ⟨n0, n1, n2, n3, n4, n5, n6, n7, n8, n9, n10, n11, n12⟩ := Blk.cells13 HL.out
      go_wp2_with fail
      refine HCS.out.mono ?_
      rintro e w6 ⟨rfl, hp6, hu6⟩
      have HP6 := Lib.hid hp6; have HU6 := Lib.hid hu6
      have HR6 := Lib.hid (HI.out.r.upd hu6 HI.out.pr)
      have HL6 := Lib.hid (HI.out.box1 HL.out HQ.out hu6)
      clear hp6 hu6 n0 n1 n2 n3 n4 n5 n6 n7 n8 n9 n10 n11 n12 HCS
      go_upto_region 13 with fail
      have hx6 : Below w6.heap.size w6 (w6.alloc (.cells (sC x) 27)) := (Below.refl _ _).alloc (Nat.le_refl _) _
      have HP7 := Lib.hid (PM.below HP6.out hx6)
      have HR7 := Lib.hid (PM.below HR6.out hx6)
      have HL7 := Lib.hid (HL6.out.below hx6 HL6.out.lt)
      have HU7 := Lib.hid (HU6.out.trans (Upd.of_below hx6 h.X))
      have HKX := Lib.hid (Blk.new w6 27 (sC x))
      have HXB := Lib.hid (show ∀ q, h'.X q → q < w6.heap.size from fun q hq => (HR6.out.lt (Hd.XB hq)).2)
      obtain ⟨w7, hw7⟩ : ∃ w7, w6.alloc (.cells (sC x) 27) = w7 := ⟨_, rfl⟩
      rw [hw7] at HP7 HR7 HL7 HU7 HKX
      simp only [sC] at hw7
      rw [hw7]
      generalize w6.heap.size = gx at *
      clear hw7 hx6 HP6 HR6 HL6 HU6
      obtain ⟨n0, n1, n2, n3, n4, n5, n6, n7, n8, n9, n10, n11, n12⟩ := Blk.cells13 HL7.out
      go_wp2_with fail
      refine (HRS.out _ HR7.out).mono ?_
      rintro e w8 ⟨rfl, hr8, hu8⟩
      have HI8 := Lib.hid (Bo.both HI.out HP7.out HU7.out hr8 hu8)
      have HX8 := Lib.hid (HKX.out.upd hu8 (fun hq => by have := HXB.out _ hq; omega))
      have HL8 := Lib.hid (HI.out.box2 HL7.out HQ.out hu8)
      clear hr8 hu8 n0 n1 n2 n3 n4 n5 n6 n7 n8 n9 n10 n11 n12 HRS HP7 HR7 HL7 HU7 HKX HXB
      go_upto_region 14 with fail
      have hx8 : Below w8.heap.size w8 (w8.alloc (.cells (sC x) 27)) := (Below.refl _ _).alloc (Nat.le_refl _) _
      have HI9 := Lib.hid (Bo.ext HI8.out hx8)
      have HX9 := Lib.hid (Blk.below HX8.out hx8 HX8.out.lt)
      have HL9 := Lib.hid (Blk.below HL8.out hx8 HL8.out.lt)
      have HY9 := Lib.hid (Blk.new w8 27 (sC x))
      obtain ⟨w9, hw9⟩ : ∃ w9, w8.alloc (.cells (sC x) 27) = w9 := ⟨_, rfl⟩
      rw [hw9] at HI9 HX9 HY9 HL9
      simp only [sC] at hw9
      rw [hw9]
      generalize w8.heap.size = gy at *
      clear hw9 hx8 HI8 HX8 HL8 HI HL
      have HID := Lib.hid (show Bo W n1 n2 h h' m2 w9.drew from Bo.ext HI9.out ((Below.refl _ _).drew))
      have HL0 := Lib.hid (show w9.cell? ⟨gx, 0, none⟩ = some (u (x.r 0)) ∧ w9.cell? ⟨gx, 1, none⟩ = some (u (x.r 1)) ∧ w9.cell? ⟨gx, 2, none⟩ = some (u (x.r 2)) ∧ w9.cell? ⟨gx, 3, none⟩ = some (u (x.r 3)) ∧ w9.cell? ⟨gx, 4, none⟩ = some (u (x.r 4)) ∧ w9.cell? ⟨gx, 5, none⟩ = some (u (x.r 5)) ∧ w9.cell? ⟨gx, 6, none⟩ = some (u (x.r 6)) ∧ w9.cell? ⟨gx, 7, none⟩ = some (u (x.r 7)) ∧ w9.cell? ⟨gx, 8, none⟩ = some (u x.pc) ∧ w9.cell? ⟨gx, 9, none⟩ = some (.bool x.n) ∧ w9.cell? ⟨gx, 10, none⟩ = some (.bool x.z) ∧ w9.cell? ⟨gx, 11, none⟩ = some (.bool x.c) ∧ w9.cell? ⟨gx, 12, none⟩ = some (.bool x.v) ∧ w9.cell? ⟨gy, 0, none⟩ = some (u (x.r 0)) ∧ w9.cell? ⟨gy, 1, none⟩ = some (u (x.r 1)) ∧ w9.cell? ⟨gy, 2, none⟩ = some (u (x.r 2)) ∧ w9.cell? ⟨gy, 3, none⟩ = some (u (x.r 3)) ∧ w9.cell? ⟨gy, 4, none⟩ = some (u (x.r 4)) ∧ w9.cell? ⟨gy, 5, none⟩ = some (u (x.r 5)) ∧ w9.cell? ⟨gy, 6, none⟩ = some (u (x.r 6)) ∧ w9.cell? ⟨gy, 7, none⟩ = some (u (x.r 7)) ∧ w9.cell? ⟨gy, 8, none⟩ = some (u x.pc) ∧ w9.cell? ⟨gy, 9, none⟩ = some (.bool x.n) ∧ w9.cell? ⟨gy, 10, none⟩ = some (.bool x.z) ∧ w9.cell? ⟨gy, 11, none⟩ = some (.bool x.c) ∧ w9.cell? ⟨gy, 12, none⟩ = some (.bool x.v) ∧ w9.cell? ⟨h'.r, 1, none⟩ = some (.slice h'.AW m2.W.length h'.cW) from ⟨HX9.out.cell 0, HX9.out.cell 1, HX9.out.cell 2, HX9.out.cell 3, HX9.out.cell 4, HX9.out.cell 5, HX9.out.cell 6, HX9.out.cell 7, HX9.out.cell 8, HX9.out.cell 9, HX9.out.cell 10, HX9.out.cell 11, HX9.out.cell 12, HY9.out.cell 0, HY9.out.cell 1, HY9.out.cell 2, HY9.out.cell 3, HY9.out.cell 4, HY9.out.cell 5, HY9.out.cell 6, HY9.out.cell 7, HY9.out.cell 8, HY9.out.cell 9, HY9.out.cell 10, HY9.out.cell 11, HY9.out.cell 12, HI9.out.r.blk.cell 1⟩)
      have HL0d := Lib.hid (show w9.drew.cell? ⟨gx, 0, none⟩ = some (u (x.r 0)) ∧ w9.drew.cell? ⟨gx, 1, none⟩ = some (u (x.r 1)) ∧ w9.drew.cell? ⟨gx, 2, none⟩ = some (u (x.r 2)) ∧ w9.drew.cell? ⟨gx, 3, none⟩ = some (u (x.r 3)) ∧ w9.drew.cell? ⟨gx, 4, none⟩ = some (u (x.r 4)) ∧ w9.drew.cell? ⟨gx, 5, none⟩ = some (u (x.r 5)) ∧ w9.drew.cell? ⟨gx, 6, none⟩ = some (u (x.r 6)) ∧ w9.drew.cell? ⟨gx, 7, none⟩ = some (u (x.r 7)) ∧ w9.drew.cell? ⟨gx, 8, none⟩ = some (u x.pc) ∧ w9.drew.cell? ⟨gx, 9, none⟩ = some (.bool x.n) ∧ w9.drew.cell? ⟨gx, 10, none⟩ = some (.bool x.z) ∧ w9.drew.cell? ⟨gx, 11, none⟩ = some (.bool x.c) ∧ w9.drew.cell? ⟨gx, 12, none⟩ = some (.bool x.v) ∧ w9.drew.cell? ⟨gy, 0, none⟩ = some (u (x.r 0)) ∧ w9.drew.cell? ⟨gy, 1, none⟩ = some (u (x.r 1)) ∧ w9.drew.cell? ⟨gy, 2, none⟩ = some (u (x.r 2)) ∧ w9.drew.cell? ⟨gy, 3, none⟩ = some (u (x.r 3)) ∧ w9.drew.cell? ⟨gy, 4, none⟩ = some (u (x.r 4)) ∧ w9.drew.cell? ⟨gy, 5, none⟩ = some (u (x.r 5)) ∧ w9.drew.cell? ⟨gy, 6, none⟩ = some (u (x.r 6)) ∧ w9.drew.cell? ⟨gy, 7, none⟩ = some (u (x.r 7)) ∧ w9.drew.cell? ⟨gy, 8, none⟩ = some (u x.pc) ∧ w9.drew.cell? ⟨gy, 9, none⟩ = some (.bool x.n) ∧ w9.drew.cell? ⟨gy, 10, none⟩ = some (.bool x.z) ∧ w9.drew.cell? ⟨gy, 11, none⟩ = some (.bool x.c) ∧ w9.drew.cell? ⟨gy, 12, none⟩ = some (.bool x.v) ∧ w9.drew.cell? ⟨h'.r, 1, none⟩ = some (.slice h'.AW m2.W.length h'.cW) from ⟨HX9.out.cell 0, HX9.out.cell 1, HX9.out.cell 2, HX9.out.cell 3, HX9.out.cell 4, HX9.out.cell 5, HX9.out.cell 6, HX9.out.cell 7, HX9.out.cell 8, HX9.out.cell 9, HX9.out.cell 10, HX9.out.cell 11, HX9.out.cell 12, HY9.out.cell 0, HY9.out.cell 1, HY9.out.cell 2, HY9.out.cell 3, HY9.out.cell 4, HY9.out.cell 5, HY9.out.cell 6, HY9.out.cell 7, HY9.out.cell 8, HY9.out.cell 9, HY9.out.cell 10, HY9.out.cell 11, HY9.out.cell 12, HI9.out.r.blk.cell 1⟩)
      have hEq := eq_state x
      have hG : Tryd.prog.eqGuardType Tryd.prog.depth 27 = false := by kernel_rfl
      go_region_held3 (fun w' => w'.cell? ⟨gx, 0, none⟩ = some (u (x.r 0)) ∧ w'.cell? ⟨gx, 1, none⟩ = some (u (x.r 1)) ∧ w'.cell? ⟨gx, 2, none⟩ = some (u (x.r 2)) ∧ w'.cell? ⟨gx, 3, none⟩ = some (u (x.r 3)) ∧ w'.cell? ⟨gx, 4, none⟩ = some (u (x.r 4)) ∧ w'.cell? ⟨gx, 5, none⟩ = some (u (x.r 5)) ∧ w'.cell? ⟨gx, 6, none⟩ = some (u (x.r 6)) ∧ w'.cell? ⟨gx, 7, none⟩ = some (u (x.r 7)) ∧ w'.cell? ⟨gx, 8, none⟩ = some (u x.pc) ∧ w'.cell? ⟨gx, 9, none⟩ = some (.bool x.n) ∧ w'.cell? ⟨gx, 10, none⟩ = some (.bool x.z) ∧ w'.cell? ⟨gx, 11, none⟩ = some (.bool x.c) ∧ w'.cell? ⟨gx, 12, none⟩ = some (.bool x.v) ∧ w'.cell? ⟨gy, 0, none⟩ = some (u (x.r 0)) ∧ w'.cell? ⟨gy, 1, none⟩ = some (u (x.r 1)) ∧ w'.cell? ⟨gy, 2, none⟩ = some (u (x.r 2)) ∧ w'.cell? ⟨gy, 3, none⟩ = some (u (x.r 3)) ∧ w'.cell? ⟨gy, 4, none⟩ = some (u (x.r 4)) ∧ w'.cell? ⟨gy, 5, none⟩ = some (u (x.r 5)) ∧ w'.cell? ⟨gy, 6, none⟩ = some (u (x.r 6)) ∧ w'.cell? ⟨gy, 7, none⟩ = some (u (x.r 7)) ∧ w'.cell? ⟨gy, 8, none⟩ = some (u x.pc) ∧ w'.cell? ⟨gy, 9, none⟩ = some (.bool x.n) ∧ w'.cell? ⟨gy, 10, none⟩ = some (.bool x.z) ∧ w'.cell? ⟨gy, 11, none⟩ = some (.bool x.c) ∧ w'.cell? ⟨gy, 12, none⟩ = some (.bool x.v) ∧ w'.cell? ⟨h'.r, 1, none⟩ = some (.slice h'.AW m2.W.length h'.cW)) (first | with_reducible exact HL0.out | with_reducible exact HL0d.out | with_reducible exact HL1.out | with_reducible exact HL2.out) (first | (go_at_call 15; refine (MmR.same _ _ _ _ m2.W _ (lies_own HO10.out) (lies_own HI10.out.r.ow) HM3.out).mono ?_; rintro e w11 ⟨rfl, hb11⟩; have HI11 := Lib.hid (Bo.ext HI10.out hb11); have HX11 := Lib.hid (Blk.below HX10.out hb11 HX10.out.lt); have HY11 := Lib.hid (Blk.below HY10.out hb11 HY10.out.lt); have HL11 := Lib.hid (Blk.below HL10.out hb11 HL10.out.lt); have HL2 := Lib.hid (show w11.cell? ⟨gx, 0, none⟩ = some (u (x.r 0)) ∧ w11.cell? ⟨gx, 1, none⟩ = some (u (x.r 1)) ∧ w11.cell? ⟨gx, 2, none⟩ = some (u (x.r 2)) ∧ w11.cell? ⟨gx, 3, none⟩ = some (u (x.r 3)) ∧ w11.cell? ⟨gx, 4, none⟩ = some (u (x.r 4)) ∧ w11.cell? ⟨gx, 5, none⟩ = some (u (x.r 5)) ∧ w11.cell? ⟨gx, 6, none⟩ = some (u (x.r 6)) ∧ w11.cell? ⟨gx, 7, none⟩ = some (u (x.r 7)) ∧ w11.cell? ⟨gx, 8, none⟩ = some (u x.pc) ∧ w11.cell? ⟨gx, 9, none⟩ = some (.bool x.n) ∧ w11.cell? ⟨gx, 10, none⟩ = some (.bool x.z) ∧ w11.cell? ⟨gx, 11, none⟩ = some (.bool x.c) ∧ w11.cell? ⟨gx, 12, none⟩ = some (.bool x.v) ∧ w11.cell? ⟨gy, 0, none⟩ = some (u (x.r 0)) ∧ w11.cell? ⟨gy, 1, none⟩ = some (u (x.r 1)) ∧ w11.cell? ⟨gy, 2, none⟩ = some (u (x.r 2)) ∧ w11.cell? ⟨gy, 3, none⟩ = some (u (x.r 3)) ∧ w11.cell? ⟨gy, 4, none⟩ = some (u (x.r 4)) ∧ w11.cell? ⟨gy, 5, none⟩ = some (u (x.r 5)) ∧ w11.cell? ⟨gy, 6, none⟩ = some (u (x.r 6)) ∧ w11.cell? ⟨gy, 7, none⟩ = some (u (x.r 7)) ∧ w11.cell? ⟨gy, 8, none⟩ = some (u x.pc) ∧ w11.cell? ⟨gy, 9, none⟩ = some (.bool x.n) ∧ w11.cell? ⟨gy, 10, none⟩ = some (.bool x.z) ∧ w11.cell? ⟨gy, 11, none⟩ = some (.bool x.c) ∧ w11.cell? ⟨gy, 12, none⟩ = some (.bool x.v) ∧ w11.cell? ⟨h'.r, 1, none⟩ = some (.slice h'.AW m2.W.length h'.cW) from ⟨HX11.out.cell 0, HX11.out.cell 1, HX11.out.cell 2, HX11.out.cell 3, HX11.out.cell 4, HX11.out.cell 5, HX11.out.cell 6, HX11.out.cell 7, HX11.out.cell 8, HX11.out.cell 9, HX11.out.cell 10, HX11.out.cell 11, HX11.out.cell 12, HY11.out.cell 0, HY11.out.cell 1, HY11.out.cell 2, HY11.out.cell 3, HY11.out.cell 4, HY11.out.cell 5, HY11.out.cell 6, HY11.out.cell 7, HY11.out.cell 8, HY11.out.cell 9, HY11.out.cell 10, HY11.out.cell 11, HY11.out.cell 12, HI11.out.r.blk.cell 1⟩); clear hb11) | (go_at_call 16; refine (Mm.words _ h _ _ HID.out.p).mono ?_; rintro e w10 ⟨A5, c5, rfl, ho10, hx10⟩; have HI10 := Lib.hid (Bo.ext HID.out hx10); have HO10 := Lib.hid ho10; have HX10 := Lib.hid (Blk.below (w := w9.drew) HX9.out hx10 HX9.out.lt); have HY10 := Lib.hid (Blk.below (w := w9.drew) HY9.out hx10 HY9.out.lt); have HL10 := Lib.hid (Blk.below (w := w9.drew) HL9.out hx10 HL9.out.lt); have HL1 := Lib.hid (show w10.cell? ⟨gx, 0, none⟩ = some (u (x.r 0)) ∧ w10.cell? ⟨gx, 1, none⟩ = some (u (x.r 1)) ∧ w10.cell? ⟨gx, 2, none⟩ = some (u (x.r 2)) ∧ w10.cell? ⟨gx, 3, none⟩ = some (u (x.r 3)) ∧ w10.cell? ⟨gx, 4, none⟩ = some (u (x.r 4)) ∧ w10.cell? ⟨gx, 5, none⟩ = some (u (x.r 5)) ∧ w10.cell? ⟨gx, 6, none⟩ = some (u (x.r 6)) ∧ w10.cell? ⟨gx, 7, none⟩ = some (u (x.r 7)) ∧ w10.cell? ⟨gx, 8, none⟩ = some (u x.pc) ∧ w10.cell? ⟨gx, 9, none⟩ = some (.bool x.n) ∧ w10.cell? ⟨gx, 10, none⟩ = some (.bool x.z) ∧ w10.cell? ⟨gx, 11, none⟩ = some (.bool x.c) ∧ w10.cell? ⟨gx, 12, none⟩ = some (.bool x.v) ∧ w10.cell? ⟨gy, 0, none⟩ = some (u (x.r 0)) ∧ w10.cell? ⟨gy, 1, none⟩ = some (u (x.r 1)) ∧ w10.cell? ⟨gy, 2, none⟩ = some (u (x.r 2)) ∧ w10.cell? ⟨gy, 3, none⟩ = some (u (x.r 3)) ∧ w10.cell? ⟨gy, 4, none⟩ = some (u (x.r 4)) ∧ w10.cell? ⟨gy, 5, none⟩ = some (u (x.r 5)) ∧ w10.cell? ⟨gy, 6, none⟩ = some (u (x.r 6)) ∧ w10.cell? ⟨gy, 7, none⟩ = some (u (x.r 7)) ∧ w10.cell? ⟨gy, 8, none⟩ = some (u x.pc) ∧ w10.cell? ⟨gy, 9, none⟩ = some (.bool x.n) ∧ w10.cell? ⟨gy, 10, none⟩ = some (.bool x.z) ∧ w10.cell? ⟨gy, 11, none⟩ = some (.bool x.c) ∧ w10.cell? ⟨gy, 12, none⟩ = some (.bool x.v) ∧ w10.cell? ⟨h'.r, 1, none⟩ = some (.slice h'.AW m2.W.length h'.cW) from ⟨HX10.out.cell 0, HX10.out.cell 1, HX10.out.cell 2, HX10.out.cell 3, HX10.out.cell 4, HX10.out.cell 5, HX10.out.cell 6, HX10.out.cell 7, HX10.out.cell 8, HX10.out.cell 9, HX10.out.cell 10, HX10.out.cell 11, HX10.out.cell 12, HY10.out.cell 0, HY10.out.cell 1, HY10.out.cell 2, HY10.out.cell 3, HY10.out.cell 4, HY10.out.cell 5, HY10.out.cell 6, HY10.out.cell 7, HY10.out.cell 8, HY10.out.cell 9, HY10.out.cell 10, HY10.out.cell 11, HY10.out.cell 12, HI10.out.r.blk.cell 1⟩); clear ho10 hx10))
      have HI := Lib.hid HI11.out; have HL := Lib.hid HL11.out; have HX := Lib.hid HX11.out
      clear HI11 HL11 HX11 HY11 HL0 HL0d HL1 HL2 HI10 HL10 HX10 HY10 HO10 HID HI9 HX9 HL9 HY9
      by_cases hs : st = true ∨ er ≠ 0
      · obtain rfl : x = sx := HST.out hs
        obtain ⟨n0, n1, n2, n3, n4, n5, n6, n7, n8, n9, n10, n11, n12⟩ := Blk.cells13 HX.out
        obtain ⟨z0, z1, z2, z3, z4, z5, z6, z7, z8, z9, z10, z11, z12⟩ := Blk.cells13 HL.out
        have key : st = true ∨ (st = false ∧ (er != 0) = true) := by
          cases st with
          | true => exact .inl rfl
          | false => exact .inr ⟨rfl, by rcases hs with h | h; exact absurd h Bool.false_ne_true; simpa using h⟩
        clear hs
        rcases key with rfl | ⟨rfl, he⟩
        · go_wp2_with fail
          refine (lives _ (HT.out.below HI.out.lo)).mono ?_
          rintro e w12 ⟨rfl, hb⟩
          have HB12 := Lib.hid (Bo.ext HI.out hb)
          clear hb
          go_wp2_with fail
          go_ret
          exact ⟨rfl, HB12.out.lo⟩
        · go_wp2_with fail
          refine (lives _ (HT.out.below HI.out.lo)).mono ?_
          rintro e w12 ⟨rfl, hb⟩
          have HB12 := Lib.hid (Bo.ext HI.out hb)
          clear hb
          go_wp2_with fail
          go_ret
          exact ⟨rfl, HB12.out.lo⟩
      · obtain rfl : st = false := by cases st with | true => exact absurd (.inl rfl) hs | false => rfl
        obtain rfl : er = 0 := by by_cases h : er = 0; exact h; exact absurd (.inr h) hs
        obtain ⟨n0, n1, n2, n3, n4, n5, n6, n7, n8, n9, n10, n11, n12⟩ := Blk.cells13 HX.out
        obtain ⟨z0, z1, z2, z3, z4, z5, z6, z7, z8, z9, z10, z11, z12⟩ := Blk.cells13 HL.out
        obtain ⟨f0, f1, f2, f3, f4, f5, f6, f7, f8, f9, f10, f11, f12⟩ := Blk.frozen13 HL.out
        clear hs hEq hG
        go_upto_region 11 with fail
        obtain ⟨hB, hU⟩ := blk13 HL.out x
        have HIN := Lib.hid (HI.out.upd1 HQ.out (Nat.le_refl _) hU)
        have HLN := Lib.hid hB
        obtain ⟨w12, hw12⟩ : ∃ w12, put13 w11 W.heap.size x = w12 := ⟨_, rfl⟩
        rw [hw12] at HIN HLN
        simp only [put13] at hw12
        rw [hw12]
        clear hw12 hB hU n0 n1 n2 n3 n4 n5 n6 n7 n8 n9 n10 n11 n12 z0 z1 z2 z3 z4 z5 z6 z7 z8 z9 z10 z11 z12 f0 f1 f2 f3 f4 f5 f6 f7 f8 f9 f10 f11 f12 HI HL HX
        go_wp2_with fail
        go_roundw
        case rel => exact ⟨k + 1, x, m2, by have := HLT.out; omega, by go_num, HIN, HLN, HM2⟩
        case measure => have := HLT.out; simp [intOf]; omega
    · obtain rfl : k = 80 := by omega
      clear hlt hk
      go_wp2_with fail
      refine (lives _ (HT.out.below HI.out.lo)).mono ?_
      rintro e w12 ⟨rfl, hb⟩
      have HB12 := Lib.hid (Bo.ext HI.out hb)
      clear hb
      go_wp2_with fail
      go_ret
      exact ⟨rfl, HB12.out.lo⟩
end Go.Proofs.YtkipfeljpngkeaaDoor.Co
