/- DERIVED. The walk of ImageCuts. By an AI agent. -/
import Derived.Test.YtgcmbleinobneaaIpAny
import Derived.Deep.RegionHeld3
namespace Go.Proofs.Ytgcmbleinobneaa.imageCuts
open Go.ChangeShapes Go.WideShapes Go.ChangeAt Go.RowKit Args ImRef Ip
set_option linter.unusedVariables false
set_option maxRecDepth 100000 in
set_option maxHeartbeats 8000000 in
theorem walk (W : World) (v : Value) (zs : List Int) (hv : Ints .u16 2 W v zs) (vm : Value) (m : Man) (hm : IsMan W vm m) (a : Int) (ha : (Lit.int .u16 a).wf = true) :
    Calls Try.prog 7 #[v, vm, .int .u16 a] W fun e w' => e = .returned (.bool true) ∧ Below W.heap.size W w' := by
  obtain ⟨A, cap, rfl, hlc, hcm, hL⟩ := hv.ex
  have hl := hv.reach
  have hzb : ∀ z ∈ zs, 0 ≤ z ∧ z ≤ 65535 := fun z hz => by
    have := hv.wf z hz
    simp [Lit.wf, show IntKind.u16.min = 0 from rfl, show IntKind.u16.max = 65535 from rfl] at this
    omega
  simp [Lit.wf, show IntKind.u16.min = 0 from rfl, show IntKind.u16.max = 65535 from rfl] at ha
  obtain ⟨ha0, ha1⟩ := ha
  obtain ⟨v4, v5, v6, rfl, t4, t5, t6⟩ := hm.ex
  obtain ⟨A4, c4, rfl, k4⟩ := TIs.cs t4
  obtain ⟨A5, c5, rfl, k5⟩ := TIs.cs t5
  obtain ⟨A6, c6, rfl, k6⟩ := TIs.cs t6
  have hl1 : zs.length ≤ 70368744177664 := by omega
  obtain ⟨i0, hi, hz0, hz1, hz2⟩ := info_parts infoH
  obtain ⟨i1, ji, jz0, jz1, jz2⟩ := info_parts infoB8
  have hb0 : Below W.heap.size W (W.alloc (.cells (manV m A4 A5 A6 c4 c5 c6) 25)) := (Below.refl _ _).alloc (Nat.le_refl _) _
  have FEW := Lib.hid (few m A4 A5 A6 c4 c5 c6 _ (k4.below hb0) (k5.below hb0) (k6.below hb0))
  have HB0 := Lib.hid hb0; have HL := Lib.hid hL; have HZB := Lib.hid hzb
  have K4 := Lib.hid k4; have K5 := Lib.hid k5; have K6 := Lib.hid k6
  have HI := Lib.hid hi; have HZ0 := Lib.hid hz0; have HZ1 := Lib.hid hz1; have HZ2 := Lib.hid hz2
  have JI := Lib.hid ji; have JZ0 := Lib.hid jz0; have JZ1 := Lib.hid jz1; have JZ2 := Lib.hid jz2
  clear hb0 hL hzb k4 k5 k6 hi hz0 hz1 hz2 ji jz0 jz1 jz2 hv hm t4 t5 t6 hl
  go_enter Try.func7, Try.ntmps7
  go_wp2_with fail
  refine FEW.out.mono ?_
  rintro en w1 ⟨b, rfl, hb1⟩
  have hq1 : Blk w1 W.heap.size 25 (manV m A4 A5 A6 c4 c5 c6) := (Blk.new W _ _).below hb1 (by simp)
  have hw1 : Below W.heap.size W w1 := HB0.out.trans (hb1.mono (by simp))
  have hs1 : W.heap.size + 1 ≤ w1.heap.size := by have := hb1.size; simp at this; exact this
  have HQ1 := Lib.hid hq1; have HW1 := Lib.hid hw1
  clear hb1 hq1 hw1
  cases b with
  | false =>
    go_wp2_with (go_at_call 9; (with_reducible refine (lives _).mono ?_); rintro e w3 ⟨rfl, hb3⟩; have HB3 := Lib.hid (HW1.out.trans (hb3.mono HW1.out.size)); clear hb3)
    go_ret
    exact ⟨rfl, HB3.out⟩
  | true =>
    have HLA := Lib.hid (HL.out.below (HW1.out.alloc HW1.out.size (.cells #[] 44)))
    have P1 := Lib.hid (box7 HQ1.out)
    have PA := Lib.hid (box7 (HQ1.out.alloc (.cells #[] 44)).drew)
    have HO := Lib.hid (own_empty w1 (Nat.le_refl w1.heap.size) 44 1).drew
    go_wp2_with fail
    go_region_held3 (fun w' => w'.cell? ⟨W.heap.size, 0, none⟩ = some (.int .i64 m.o) ∧ w'.cell? ⟨W.heap.size, 1, none⟩ = some (.int .i64 m.s) ∧ w'.cell? ⟨W.heap.size, 2, none⟩ = some (.int .i64 m.r) ∧ w'.cell? ⟨W.heap.size, 3, none⟩ = some (.int .i64 m.w) ∧ w'.cell? ⟨W.heap.size, 4, none⟩ = some (.slice A4 m.se.length c4) ∧ w'.cell? ⟨W.heap.size, 5, none⟩ = some (.slice A5 m.pu.length c5) ∧ w'.cell? ⟨W.heap.size, 6, none⟩ = some (.slice A6 m.ou.length c6))
      (first | exact P3.out | exact P2.out | exact P1.out | exact PA.out | go_keep)
      ((first
        | (refine step_fresh rfl _ _ 22 rfl w1.heap.size 44 i0 (.int .u16 0) 1 2 Try.underlying22 HI.out HZ0.out HZ1.out HZ2.out rfl (by decide) _ 0 [] rfl HO.out A zs.length cap (zs.map (.int .u16)) rfl (by simp) HLA.out (by simp [Value.oneCell']) (by unfold maxLen; omega) (by omega) (by simp) ?_; intro A2 c2 w2 h1 h2 h3 h4; simp only [Nat.zero_add, List.nil_append] at h1 h3; have HO2 := Lib.hid (lies_own h3); have HB2 := Lib.hid (((Below.refl w1.heap.size w1).alloc (Nat.le_refl _) (.cells #[] 44)).drew.grown h4 (by simp) (fun k e => by cases e; exact Nat.le_refl _)); have P2 := Lib.hid (box7 (HQ1.out.below HB2.out hs1)); have HW2 := Lib.hid (HW1.out.trans (HB2.out.mono HW1.out.size)); clear h1 h2 h3 h4; rw [Nat.zero_add])
        | (go_at_call 10; refine (putAny A2 c2 zs m A4 A5 A6 c4 c5 c6 w2 HO2.out HZB.out (K4.out.below HW2.out) (K5.out.below HW2.out) (K6.out.below HW2.out)).mono ?_; rintro en w3 ⟨A3, c3, l3, rfl, hb3, ho3, hn3⟩; have HB3 := Lib.hid (HB2.out.trans (hb3.mono HB2.out.size)); have HO3 := Lib.hid ho3; have HN3 := Lib.hid hn3; clear hb3 ho3 hn3; have P3 := Lib.hid (box7 (HQ1.out.below HB3.out hs1)); have HW3 := Lib.hid (HW1.out.trans (HB3.out.mono HW1.out.size)))))
    have hs3 : w1.heap.size ≤ w3.heap.size := HB3.out.size
    clear HO2 HB2 P2 HW2 HO PA P3 FEW HLA
    generalize hE : putE zs m = E at *
    by_cases he : E = 0
    · subst he
      obtain ⟨hcan, hlen⟩ := putE_0 hE
      have hown := HO3.out rfl
      have hby := put_byte zs m hcan HZB.out
      obtain ⟨hlo, hhi⟩ := put_long_ zs m hcan hlen
      have hcut := take_cut zs m hcan hlen HZB.out
      obtain ⟨bs, hbs⟩ : ∃ bs, bs = putL zs m := ⟨_, rfl⟩
      rw [← hbs] at hown hby hlo hhi hcut
      obtain ⟨hl3, hown⟩ := hown
      subst hl3
      have hc3 : bs.length ≤ c3 := by
        obtain ⟨_, _, ee, q1, _, _⟩ := sl_own hown
        injection ee with _ _ e3
        rw [e3]; exact q1
      obtain ⟨g, cap3, e, hcp, _⟩ := World.ownsRow.form hown (by omega)
      injection e with e1 e2 e3
      subst e1 e3
      have hL3 := lies_own hown
      have hg := World.ownsRow.lt hown g rfl
      obtain ⟨k, hk⟩ : ∃ k : Nat, k = a.toNat % bs.length := ⟨_, rfl⟩
      have hkl : k < bs.length := by rw [hk]; exact Nat.mod_lt _ (by omega)
      have htm : a.tmod (bs.length : Int) = (k : Int) := by
        rw [Int.tmod_eq_emod_of_nonneg ha0, hk]
        have : a = ((a.toNat : Nat) : Int) := by omega
        rw [this, Int.toNat_natCast, Int.natCast_emod]
      have hcu := hcut (bs.take k) (List.take_prefix _ _) (fun h => by
        have := congrArg List.length h
        rw [List.length_take] at this
        omega)
      have hLk : Lies (w3.alloc (.cells #[] 5)) (some ⟨g, 0, none⟩) ((bs.take k).map (.int .u8)) := fun j u hj => by
        rw [List.getElem?_map, List.getElem?_take] at hj
        split at hj
        · rename_i hjk
          exact (hL3.below ((Below.refl w3.heap.size w3).alloc (Nat.le_refl _) (.cells #[] 5))) j u (by
            show (bvals bs)[j]? = some u
            rw [bvals, List.getElem?_map]; exact hj)
        · cases hj
      have hkn : (bs.take k).length = k := by rw [List.length_take]; omega
      have HCU := Lib.hid hcu; have HLK := Lib.hid hLk; have HKN := Lib.hid hkn; have HBY := Lib.hid hby
      clear hown hby hcut e2 hL3 hk hcu hLk hkn HO3 HN3 hbs hcan hlen
      have hkc : k ≤ c3 := by omega
      simp only [show ((0 : Nat) : Int) = 0 from rfl]
      go_wp2_with ((first
        | (at_builtin; go_loud (refine wpList_fresh rfl _ _ 28 rfl w3.heap.size 5 i1 (.int .u8 0) 1 1 Try.underlying28 JI.out JZ0.out JZ1.out JZ2.out rfl (by decide) _ 0 [] rfl (own_empty w3 (Nat.le_refl _) _ _) (some ⟨g, 0, none⟩) k _ ((bs.take k).map (.int .u8)) rfl (by simp; omega) HLK.out (fun u hu => by obtain ⟨z, _, rfl⟩ := List.mem_map.1 hu; rfl) (by unfold maxLen; omega) (by omega) (by simp) ?_; intro A4' c4' w4 h1 h2 h3 h4; simp only [Nat.zero_add, List.nil_append] at h1 h2 h3; have HP4 := Lib.hid (pc_own h3 HKN.out.symm h1 h2 (HBY.out.take k) (by rw [HKN.out]; omega)); have HB4 := Lib.hid (grown_new (Below.refl w3.heap.size w3) h4); clear h1 h2 h3 h4; rw [Nat.zero_add]))))
      refine (take_n A4' c4' k (bs.take k) HKN.out w4 HP4.out).mono ?_
      rintro en w5 ⟨v5, m5, B4, B5, B6, d4, d5, d6, e5, ys5, rfl, htk, hsl, x4, x5, x6, hb5⟩
      obtain ⟨q1, q2⟩ := Prod.mk.inj (htk.symm.trans HCU.out)
      obtain ⟨q2, q3⟩ := Prod.mk.inj q2
      subst q1 q2 q3
      obtain ⟨B, cB, hv5, _, _, _⟩ := hsl
      have hv6 : v5 = .slice B 0 cB := hv5
      subst hv6
      have HW5 := Lib.hid (HW3.out.trans ((HB4.out.trans (hb5.mono HB4.out.size)).mono (by have := HW1.out.size; omega)))
      have HSA := Lib.hid (same man0 B4 B5 B6 none none none d4 d5 d6 0 0 0 _ (x4.below ((Below.refl w5.heap.size w5).alloc (Nat.le_refl _) (.cells (manV man0 B4 B5 B6 d4 d5 d6) 25))) (x5.below ((Below.refl w5.heap.size w5).alloc (Nat.le_refl _) (.cells (manV man0 B4 B5 B6 d4 d5 d6) 25))) (x6.below ((Below.refl w5.heap.size w5).alloc (Nat.le_refl _) (.cells (manV man0 B4 B5 B6 d4 d5 d6) 25))) (Cs.none_ _) (Cs.none_ _) (Cs.none_ _))
      clear htk hb5 hv5 x4 x5 x6 HP4 HB4 HLK HCU
      go_wp2_with fail
      refine HSA.out.mono ?_
      rintro en w6 ⟨rfl, hb6⟩
      have HW6 := Lib.hid ((HW5.out.alloc HW5.out.size (.cells (manV man0 B4 B5 B6 d4 d5 d6) 25)).trans (hb6.mono (by have := HW5.out.size; simp; omega)))
      clear hb6 HSA
      go_wp2_with (go_at_call 9; (with_reducible refine (lives _).mono ?_); rintro e w7 ⟨rfl, hb7⟩; have HB7 := Lib.hid (HW6.out.trans (hb7.mono HW6.out.size)); clear hb7)
      go_ret
      exact ⟨rfl, HB7.out⟩
    · have hne : (((E : Nat) : Int) != 0) = true := by simp; omega
      go_wp2_with (go_at_call 9; (with_reducible refine (lives _).mono ?_); rintro e w4 ⟨rfl, hb4⟩; have HB4 := Lib.hid (HW3.out.trans (hb4.mono HW3.out.size)); clear hb4)
      go_ret
      exact ⟨rfl, HB4.out⟩
end Go.Proofs.Ytgcmbleinobneaa.imageCuts
