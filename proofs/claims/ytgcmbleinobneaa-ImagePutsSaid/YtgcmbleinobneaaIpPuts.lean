/- DERIVED. The walk of ImagePuts. By an AI agent. -/
import Derived.Test.YtgcmbleinobneaaIpRefPut
import Derived.Deep.RegionHeld3
namespace Go.Proofs.Ytgcmbleinobneaa.imagePuts
open Go.ChangeShapes Go.WideShapes Go.ChangeAt Go.RowKit Args ImRef Ip
set_option linter.unusedVariables false
set_option maxRecDepth 100000 in
set_option maxHeartbeats 8000000 in
theorem walk (W : World) (v : Value) (zs : List Int) (hv : Ints .u16 2 W v zs) (vm : Value) (m : Man) (hm : IsMan W vm m) :
    Calls Try.prog 3 #[v, vm] W fun e w' => e = .returned (.bool true) ∧ Below W.heap.size W w' := by
  obtain ⟨A, cap, rfl, hlc, hcm, hL⟩ := hv.ex
  have hl := hv.reach
  have hzb : ∀ z ∈ zs, 0 ≤ z ∧ z ≤ 65535 := fun z hz => by
    have := hv.wf z hz
    simp [Lit.wf, show IntKind.u16.min = 0 from rfl, show IntKind.u16.max = 65535 from rfl] at this
    omega
  obtain ⟨v4, v5, v6, rfl, t4, t5, t6⟩ := hm.ex
  obtain ⟨A4, c4, rfl, k4⟩ := TIs.cs t4
  obtain ⟨A5, c5, rfl, k5⟩ := TIs.cs t5
  obtain ⟨A6, c6, rfl, k6⟩ := TIs.cs t6
  have hl1 : zs.length ≤ 70368744177664 := by omega
  obtain ⟨i0, hi, hz0, hz1, hz2⟩ := info_parts infoH
  obtain ⟨i1, ji, jz0, jz1, jz2⟩ := info_parts infoB8
  have hb0 : Below W.heap.size W (W.alloc (.cells (manV m A4 A5 A6 c4 c5 c6) 25)) := (Below.refl _ _).alloc (Nat.le_refl _) _
  have FEW := Lib.hid (few m A4 A5 A6 c4 c5 c6 _ (k4.below hb0) (k5.below hb0) (k6.below hb0))
  have HB0 := Lib.hid hb0; have HL := Lib.hid hL; have HZB := Lib.hid hzb
  have K4 := Lib.hid k4; have K5 := Lib.hid k5; have K6 := Lib.hid k6
  have HI := Lib.hid hi; have HZ0 := Lib.hid hz0; have HZ1 := Lib.hid hz1; have HZ2 := Lib.hid hz2
  have JI := Lib.hid ji; have JZ0 := Lib.hid jz0; have JZ1 := Lib.hid jz1; have JZ2 := Lib.hid jz2
  clear hb0 hL hzb k4 k5 k6 hi hz0 hz1 hz2 ji jz0 jz1 jz2 hv hm t4 t5 t6 hl
  go_enter Try.func3, Try.ntmps3
  go_wp2_with fail
  refine FEW.out.mono ?_
  rintro en w1 ⟨b, rfl, hb1⟩
  have hq1 : Blk w1 W.heap.size 25 (manV m A4 A5 A6 c4 c5 c6) := (Blk.new W _ _).below hb1 (by simp)
  have hw1 : Below W.heap.size W w1 := HB0.out.trans (hb1.mono (by simp))
  have hs1 : W.heap.size + 1 ≤ w1.heap.size := by have := hb1.size; simp at this; exact this
  have HQ1 := Lib.hid hq1; have HW1 := Lib.hid hw1
  clear hb1 hq1 hw1
  cases b with
  | false =>
    go_wp2_with (go_at_call 9; (with_reducible refine (lives _).mono ?_); rintro e w3 ⟨rfl, hb3⟩; have HB3 := Lib.hid (HW1.out.trans (hb3.mono HW1.out.size)); clear hb3)
    go_ret
    exact ⟨rfl, HB3.out⟩
  | true =>
    have HLA := Lib.hid (HL.out.below (HW1.out.alloc HW1.out.size (.cells #[] 44)))
    have P1 := Lib.hid (box7 HQ1.out)
    have PA := Lib.hid (box7 (HQ1.out.alloc (.cells #[] 44)).drew)
    have HO := Lib.hid (own_empty w1 (Nat.le_refl w1.heap.size) 44 1).drew
    go_wp2_with fail
    go_region_held3 (fun w' => w'.cell? ⟨W.heap.size, 0, none⟩ = some (.int .i64 m.o) ∧ w'.cell? ⟨W.heap.size, 1, none⟩ = some (.int .i64 m.s) ∧ w'.cell? ⟨W.heap.size, 2, none⟩ = some (.int .i64 m.r) ∧ w'.cell? ⟨W.heap.size, 3, none⟩ = some (.int .i64 m.w) ∧ w'.cell? ⟨W.heap.size, 4, none⟩ = some (.slice A4 m.se.length c4) ∧ w'.cell? ⟨W.heap.size, 5, none⟩ = some (.slice A5 m.pu.length c5) ∧ w'.cell? ⟨W.heap.size, 6, none⟩ = some (.slice A6 m.ou.length c6))
      (first | exact P3.out | exact P2.out | exact P1.out | exact PA.out | go_keep)
      ((first
        | (refine step_fresh rfl _ _ 22 rfl w1.heap.size 44 i0 (.int .u16 0) 1 2 Try.underlying22 HI.out HZ0.out HZ1.out HZ2.out rfl (by decide) _ 0 [] rfl HO.out A zs.length cap (zs.map (.int .u16)) rfl (by simp) HLA.out (by simp [Value.oneCell']) (by unfold maxLen; omega) (by omega) (by simp) ?_; intro A2 c2 w2 h1 h2 h3 h4; simp only [Nat.zero_add, List.nil_append] at h1 h3; have HO2 := Lib.hid (lies_own h3); have HB2 := Lib.hid (((Below.refl w1.heap.size w1).alloc (Nat.le_refl _) (.cells #[] 44)).drew.grown h4 (by simp) (fun k e => by cases e; exact Nat.le_refl _)); have P2 := Lib.hid (box7 (HQ1.out.below HB2.out hs1)); have HW2 := Lib.hid (HW1.out.trans (HB2.out.mono HW1.out.size)); clear h1 h2 h3 h4; rw [Nat.zero_add])
        | (go_at_call 10; refine (putAny A2 c2 zs m A4 A5 A6 c4 c5 c6 w2 HO2.out HZB.out (K4.out.below HW2.out) (K5.out.below HW2.out) (K6.out.below HW2.out)).mono ?_; rintro en w3 hpr; obtain ⟨A3, c3, rfl, hb3, hl3, hc3, hm3⟩ := putR_d hpr; have HB3 := Lib.hid (HB2.out.trans (hb3.mono HB2.out.size)); have HL3 := Lib.hid hl3; clear hb3 hl3 hpr; have P3 := Lib.hid (box7 (HQ1.out.below HB3.out hs1)); have HW3 := Lib.hid (HW1.out.trans (HB3.out.mono HW1.out.size)))))
    have hs3 : w1.heap.size ≤ w3.heap.size := HB3.out.size
    have hs30 : W.heap.size < w3.heap.size := by omega
    have P3 := Lib.hid (box7 (HQ1.out.below HB3.out hs1))
    have HRP := Lib.hid (rputAny A cap zs m A4 A5 A6 c4 c5 c6 w3 (HL.out.below HW3.out) HZB.out (by omega) (K4.out.below HW3.out) (K5.out.below HW3.out) (K6.out.below HW3.out))
    clear HO2 HB2 P2 HW2 HO PA HLA P1
    obtain ⟨⟩ : True := trivial
    have e0 := P3.out.1
    have e1 := P3.out.2.1
    have e2 := P3.out.2.2.1
    have e3 := P3.out.2.2.2.1
    have e4 := P3.out.2.2.2.2.1
    have e5 := P3.out.2.2.2.2.2.1
    have e6 := P3.out.2.2.2.2.2.2
    go_wp2_with fail
    refine HRP.out.mono ?_
    rintro en w4 hpr
    obtain ⟨A7, c7, rfl, hb4, hl4, hc7, hm7⟩ := putR_d hpr
    clear hpr e0 e1 e2 e3 e4 e5 e6 HRP
    have HW4 := Lib.hid (HW3.out.trans (hb4.mono HW3.out.size))
    have HB4 := Lib.hid hb4
    have hq4 := (HQ1.out.below HB3.out hs1).below hb4 hs30
    have HQ4 := Lib.hid hq4
    have hs40 : W.heap.size < w4.heap.size := hq4.lt
    have P4 := Lib.hid (box7 hq4)
    have hk1 := conv_d (c := c3) (HL3.out.below hb4)
    have hk2 := conv_d (c := c7) hl4
    have C4 := Lib.hid (And.intro hk1 hk2)
    have HL4 := Lib.hid hl4
    have HL34 := Lib.hid (HL3.out.below hb4)
    clear hb4 hq4 hl4 hk1 hk2
    have R4 := Lib.hid (box9 HQ4.out.drew (HL34.out.drewN 1) (HL4.out.drewN 1) (c := c3) (c' := c7))
    go_wp2_with fail
    go_region_held3 (fun w' => w'.cell? ⟨W.heap.size, 0, none⟩ = some (.int .i64 m.o) ∧ w'.cell? ⟨W.heap.size, 1, none⟩ = some (.int .i64 m.s) ∧ w'.cell? ⟨W.heap.size, 2, none⟩ = some (.int .i64 m.r) ∧ w'.cell? ⟨W.heap.size, 3, none⟩ = some (.int .i64 m.w) ∧ w'.cell? ⟨W.heap.size, 4, none⟩ = some (.slice A4 m.se.length c4) ∧ w'.cell? ⟨W.heap.size, 5, none⟩ = some (.slice A5 m.pu.length c5) ∧ w'.cell? ⟨W.heap.size, 6, none⟩ = some (.slice A6 m.ou.length c6) ∧ (convert 28 9 (.slice A3 (putD zs m).length c3)).run Try.prog w' = .ok (.string (strOfNums (putD zs m))) w' ∧ (convert 28 9 (.slice A7 (putD zs m).length c7)).run Try.prog w' = .ok (.string (strOfNums (putD zs m))) w')
      (first | exact R6.out | exact R5.out | exact R4.out | go_keep)
      ((first
        | (go_at_call 12; refine (Ip.can m A4 A5 A6 c4 c5 c6 w4.drew (K4.out.below HW4.out.drew) (K5.out.below HW4.out.drew) (K6.out.below HW4.out.drew)).mono ?_; rintro en w5 ⟨rfl, hb5⟩; have HB5 := Lib.hid (show Below w4.heap.size w4.drew w5 from hb5); clear hb5; have R5 := Lib.hid (box9 (c := c3) (c' := c7) (HQ4.out.drew.below HB5.out hs40) (HL34.out.drewN 1 |>.below HB5.out) (HL4.out.drewN 1 |>.below HB5.out)); have HW5 := Lib.hid (HW4.out.drew.trans (HB5.out.mono HW4.out.size)))
        | (go_at_call 13; refine (ImRef.can m A4 A5 A6 c4 c5 c6 w5 (K4.out.below HW5.out) (K5.out.below HW5.out) (K6.out.below HW5.out)).mono ?_; rintro en w6 ⟨rfl, hb6⟩; have HB6 := Lib.hid (HB5.out.trans (hb6.mono HB5.out.size)); clear hb6; have R6 := Lib.hid (box9 (c := c3) (c' := c7) (HQ4.out.drew.below HB6.out hs40) (HL34.out.drewN 1 |>.below HB6.out) (HL4.out.drewN 1 |>.below HB6.out)); have HW6 := Lib.hid (HW4.out.drew.trans (HB6.out.mono HW4.out.size)))))
    have hL6 := (HL34.out.drewN 1).below HB6.out
    have hq6 := HQ4.out.drew.below HB6.out hs40
    have HQ6 := Lib.hid hq6
    have hs6 : W.heap.size < w6.heap.size := hq6.lt
    clear hq6 HB5 R5 HW5 R6 R4 C4 P4 HB4 HB6 HW4 HL4 HL34 HL3 P3 HW3 HB3 HQ4
    by_cases he : putE zs m = 0
    · obtain ⟨hcan, hlen⟩ := putE_0 he
      have hD : putD zs m = putL zs m := if_pos he
      have hby := put_byte zs m hcan HZB.out
      obtain ⟨hlo, hhi⟩ := put_long_ zs m hcan hlen
      have htp := take_put zs m hcan hlen HZB.out
      rw [← hD] at hby hlo hhi htp
      generalize putD zs m = bs at *
      have HBY := Lib.hid hby; have HTP := Lib.hid htp
      have HL6 := Lib.hid (hL6.below ((Below.refl w6.heap.size w6).alloc (Nat.le_refl _) (.cells #[] 5)))
      simp only [he, show ((0 : Nat) : Int) = 0 from rfl]
      clear hD hby htp hL6 he hcan
      go_wp2_with (at_builtin; go_loud (refine wpList_fresh rfl _ _ 28 rfl w6.heap.size 5 i1 (.int .u8 0) 1 1 Try.underlying28 JI.out JZ0.out JZ1.out JZ2.out rfl (by decide) _ 0 [] rfl (own_empty w6 (Nat.le_refl _) _ _) A3 bs.length _ (bs.map (.int .u8)) rfl (by simp) HL6.out (fun u hu => by obtain ⟨z, _, rfl⟩ := List.mem_map.1 hu; rfl) (by unfold maxLen; omega) (by omega) (by simp) ?_; intro A4' c4' w7 h1 h2 h3 h4; simp only [Nat.zero_add, List.nil_append] at h1 h2 h3; have HP7 := Lib.hid (pc_own h3 rfl h1 h2 HBY.out (by omega)); have HB7 := Lib.hid (grown_new (Below.refl w6.heap.size w6) h4); clear h1 h2 h3 h4; rw [Nat.zero_add]))
      refine (take_n A4' c4' bs.length bs rfl w7 HP7.out).mono ?_
      rintro en w8 ⟨v5, m5, B4, B5, B6, d4, d5, d6, e5, ys5, rfl, htk, hsl, x4, x5, x6, hb8⟩
      obtain ⟨q1, q2⟩ := Prod.mk.inj (htk.symm.trans HTP.out)
      obtain ⟨q2, q3⟩ := Prod.mk.inj q2
      subst q1 q2 q3
      obtain ⟨B, cB, hv5, _, _, hLB⟩ := hsl
      subst hv5
      have hw8 := HB7.out.trans (hb8.mono HB7.out.size)
      have hb9 : Below w8.heap.size w8 (w8.alloc (.cells (manV m5 B4 B5 B6 d4 d5 d6) 25)) := (Below.refl w8.heap.size w8).alloc (Nat.le_refl _) (.cells (manV m5 B4 B5 B6 d4 d5 d6) 25)
      have hw9 := hw8.trans (hb9.mono hw8.size)
      have hW9 : Below W.heap.size W (w8.alloc (.cells (manV m5 B4 B5 B6 d4 d5 d6) 25)) := HW6.out.trans (hw9.mono HW6.out.size)
      have HHA := Lib.hid (halvesEq B A cB cap ys5 _ (hLB.below hb9) (HL.out.below hW9) (by omega))
      have hs8 : w6.heap.size ≤ w8.heap.size := hw8.size
      have HQ8 := Lib.hid (HQ6.out.below hw9 hs6)
      have HN8 := Lib.hid (Blk.new w8 25 (manV m5 B4 B5 B6 d4 d5 d6))
      have HW9 := Lib.hid hW9
      have X4 := Lib.hid (x4.below hb9); have X5 := Lib.hid (x5.below hb9); have X6 := Lib.hid (x6.below hb9)
      clear htk hb8 hLB x4 x5 x6 hw8 hb9 hw9 hW9 HP7 HB7 HL6 HTP HBY HW6
      go_wp2_with fail
      refine HHA.out.mono ?_
      rintro en w10 ⟨rfl, hb10⟩
      obtain ⟨e0, e1, e2, e3, e4, e5, e6⟩ := box7 (HQ8.out.below hb10 (by simp; omega))
      obtain ⟨f0, f1, f2, f3, f4, f5, f6⟩ := box7 (HN8.out.below hb10 (by simp))
      have hs9 : (w8.alloc (.cells (manV m5 B4 B5 B6 d4 d5 d6) 25)).heap.size = w8.heap.size + 1 := by simp
      have HW10 := Lib.hid (HW9.out.trans (hb10.mono HW9.out.size))
      have HSA := Lib.hid (same m5 B4 B5 B6 A4 A5 A6 d4 d5 d6 c4 c5 c6 w10 (X4.out.below hb10) (X5.out.below hb10) (X6.out.below hb10) (K4.out.below HW10.out) (K5.out.below HW10.out) (K6.out.below HW10.out))
      clear hb10 HHA HQ8 HN8 HW9 X4 X5 X6 HQ6 hs9
      go_wp2_with fail
      refine HSA.out.mono ?_
      rintro en w11 ⟨rfl, hb11⟩
      have HW11 := Lib.hid (HW10.out.trans (hb11.mono HW10.out.size))
      clear hb11 HSA e0 e1 e2 e3 e4 e5 e6 f0 f1 f2 f3 f4 f5 f6
      go_wp2_with (go_at_call 9; (with_reducible refine (lives _).mono ?_); rintro e w12 ⟨rfl, hb12⟩; have HB12 := Lib.hid (HW11.out.trans (hb12.mono HW11.out.size)); clear hb12)
      go_ret
      exact ⟨rfl, HB12.out⟩
    · have hD : putD zs m = [] := if_neg he
      generalize putD zs m = bs at *
      subst hD
      have hne : (((putE zs m : Nat) : Int) != 0) = true := by simp; omega
      generalize putE zs m = E at *
      simp only [List.length_nil]
      go_wp2_with (go_at_call 9; (with_reducible refine (lives _).mono ?_); rintro e w7 ⟨rfl, hb7⟩; have HB7 := Lib.hid (HW6.out.trans (hb7.mono HW6.out.size)); clear hb7)
      go_ret
      exact ⟨rfl, HB7.out⟩
end Go.Proofs.Ytgcmbleinobneaa.imagePuts
