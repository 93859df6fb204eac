/- DERIVED. The walk of ImageTakes. By an AI agent. -/
import Derived.Test.YtgcmbleinobneaaIpRefPut
import Derived.Test.YtgcmbleinobneaaIpRTake2
namespace Go.Proofs.Ytgcmbleinobneaa.imageTakes
open Go.ChangeShapes Go.WideShapes Go.ChangeAt Go.RowKit Args ImRef Ip
set_option linter.unusedVariables false
theorem take_sort (bs : List Int) : (takeR bs).1 = 0 ∨ takeR bs = bad (takeR bs).1 := by
  simp only [takeR, headR, codeR, listsR, endR]
  repeat' split
  all_goals first
    | exact .inr rfl
    | exact .inl rfl
set_option maxRecDepth 100000 in
set_option maxHeartbeats 8000000 in
theorem walk (W : World) (v : Value) (bs : List Int) (hv : Ints .u8 1 W v bs) :
    Calls Try.prog 4 #[v] W fun e w' => e = .returned (.bool true) ∧ Below W.heap.size W w' := by
  obtain ⟨A, cap, rfl, hlc, hcm, hL⟩ := hv.ex
  have hl := hv.reach
  have hb : Byte bs := fun z hz => by
    have := hv.wf z hz
    simp [Lit.wf, show IntKind.u8.min = 0 from rfl, show IntKind.u8.max = 255 from rfl] at this
    omega
  rw [Nat.mul_one] at hl
  have hlow : ∀ b o, A = some ⟨b, o, none⟩ → 0 < bs.length → b < W.heap.size := fun b o e hp => by
    obtain ⟨x, hx⟩ : ∃ x, bs[0]? = some x := ⟨_, List.getElem?_eq_getElem hp⟩
    obtain ⟨b', o', e', hlt, _⟩ := hL.at_ (j := 0) (u := .int .u8 x) (by simp [hx])
    rw [e] at e'
    cases e'
    exact hlt
  obtain ⟨i1, ji, jz0, jz1, jz2⟩ := info_parts infoB8
  have HL := Lib.hid hL; have HB := Lib.hid hb; have HLOW := Lib.hid hlow
  have HLA := Lib.hid (hL.below ((Below.refl W.heap.size W).alloc (Nat.le_refl _) (.cells #[] 5)))
  have JI := Lib.hid ji; have JZ0 := Lib.hid jz0; have JZ1 := Lib.hid jz1; have JZ2 := Lib.hid jz2
  clear hL hb hlow ji jz0 jz1 jz2 hv
  go_enter Try.func4, Try.ntmps4
  go_wp2_with (at_builtin; go_loud (refine wpList_fresh rfl _ _ 28 rfl W.heap.size 5 i1 (.int .u8 0) 1 1 Try.underlying28 JI.out JZ0.out JZ1.out JZ2.out rfl (by decide) _ 0 [] rfl (own_empty W (Nat.le_refl _) _ _) A bs.length cap (bs.map (.int .u8)) rfl (by simp) HLA.out (fun u hu => by obtain ⟨z, _, rfl⟩ := List.mem_map.1 hu; rfl) (by unfold maxLen; omega) (by omega) (by simp) ?_; intro A1 c1 w1 h1 h2 h3 h4; simp only [Nat.zero_add, List.nil_append] at h1 h2 h3; have HP1 := Lib.hid (pc_own h3 rfl h1 h2 HB.out (by omega)); have HB1 := Lib.hid (grown_new (Below.refl W.heap.size W) h4); clear h1 h2 h3 h4; rw [Nat.zero_add]))
  refine (take_n A1 c1 bs.length bs rfl w1 HP1.out).mono ?_
  rintro en w2 ⟨v3, m, B4, B5, B6, d4, d5, d6, e, zs, rfl, htk, hsl, x4, x5, x6, hb2⟩
  obtain ⟨B, cB, rfl, hzc, hzm, hlB⟩ := hsl
  have hbw2 := HB1.out.trans (hb2.mono HB1.out.size)
  have hb3 : Below w2.heap.size w2 (w2.alloc (.cells (manV m B4 B5 B6 d4 d5 d6) 25)) := (Below.refl w2.heap.size w2).alloc (Nat.le_refl _) _
  have hbw3 := hbw2.trans (hb3.mono hbw2.size)
  have hpb : Pb (w2.alloc (.cells (manV m B4 B5 B6 d4 d5 d6) 25)).heap.size (w2.alloc (.cells (manV m B4 B5 B6 d4 d5 d6) 25)) A cap bs := ⟨hlc, hcm, HL.out.below hbw3, fun b o e hp => Nat.lt_of_lt_of_le (HLOW.out b o e hp) hbw3.size, HB.out, by omega⟩
  have HRT := Lib.hid (rtake A cap bs _ hpb)
  have Q4 := Lib.hid (Blk.new w2 25 (manV m B4 B5 B6 d4 d5 d6))
  have X4 := Lib.hid (x4.below hb3); have X5 := Lib.hid (x5.below hb3); have X6 := Lib.hid (x6.below hb3)
  have LB := Lib.hid (hlB.below hb3)
  have HW3 := Lib.hid hbw3; have HTK := Lib.hid htk
  clear hb2 hlB x4 x5 x6 hbw2 hb3 hbw3 hpb htk HP1 HB1 HLA HLOW
  go_wp2_with fail
  refine HRT.out.mono ?_
  rintro en w4 ⟨v6, m', C4, C5, C6, f4, f5, f6, e', zs', rfl, htk, hsl, y4, y5, y6, hb4⟩
  obtain ⟨q1, q2⟩ := Prod.mk.inj (htk.symm.trans HTK.out)
  obtain ⟨q2, q3⟩ := Prod.mk.inj q2
  subst q1 q2 q3
  obtain ⟨C, cC, rfl, _, _, hlC⟩ := hsl
  have hs3 : (w2.alloc (.cells (manV m' B4 B5 B6 d4 d5 d6) 25)).heap.size = w2.heap.size + 1 := by simp
  have hb5 : Below w4.heap.size w4 (w4.alloc (.cells (manV m' C4 C5 C6 f4 f5 f6) 25)) := (Below.refl w4.heap.size w4).alloc (Nat.le_refl _) _
  have hb35 := hb4.trans (hb5.mono hb4.size)
  have h24 : w2.heap.size < w4.heap.size := by have := hb4.size; omega
  have hq4 := Q4.out.below hb35 (by omega)
  have R4 := Lib.hid hq4
  have R7 := Lib.hid (Blk.new w4 25 (manV m' C4 C5 C6 f4 f5 f6))
  have Y4 := Lib.hid (y4.below hb5); have Y5 := Lib.hid (y5.below hb5); have Y6 := Lib.hid (y6.below hb5)
  have Z4 := Lib.hid (X4.out.below hb35); have Z5 := Lib.hid (X5.out.below hb35); have Z6 := Lib.hid (X6.out.below hb35)
  have LC := Lib.hid (hlC.below hb5); have LB5 := Lib.hid (LB.out.below hb35)
  have HW5 := Lib.hid (HW3.out.trans (hb35.mono HW3.out.size))
  have hzl : zs'.length ≤ 140737488351232 := by
    rcases take_sort bs with h | h
    · rw [HTK.out] at h
      have h0 : e' = 0 := h
      have := (take_back bs HB.out zs' m' (h0 ▸ HTK.out)).2.2.1
      omega
    · rw [HTK.out] at h
      have h1 := (Prod.mk.inj (Prod.mk.inj h).2).1
      rw [h1]; decide
  have HHA := Lib.hid (halvesEq B C cB cC zs' _ LB5.out LC.out hzl)
  have hs5 : (w4.alloc (.cells (manV m' C4 C5 C6 f4 f5 f6) 25)).heap.size = w4.heap.size + 1 := by simp
  clear hb4 hlC y4 y5 y6 htk hb5 hb35 hq4 Q4 X4 X5 X6 LB HW3 HRT
  go_wp2_with fail
  refine HHA.out.mono ?_
  rintro en w6 ⟨rfl, hb6⟩
  have R46 := Lib.hid (R4.out.below hb6 (by omega))
  obtain ⟨m0, m1, m2, m3, m4, m5, m6⟩ := box7 R46.out
  obtain ⟨n0, n1, n2, n3, n4, n5, n6⟩ := box7 (R7.out.below hb6 (by omega))
  have HSA := Lib.hid (same m' B4 B5 B6 C4 C5 C6 d4 d5 d6 f4 f5 f6 w6 (Z4.out.below hb6) (Z5.out.below hb6) (Z6.out.below hb6) (Y4.out.below hb6) (Y5.out.below hb6) (Y6.out.below hb6))
  have V4 := Lib.hid (Z4.out.below hb6); have V5 := Lib.hid (Z5.out.below hb6); have V6 := Lib.hid (Z6.out.below hb6)
  have LB6 := Lib.hid (LB5.out.below hb6)
  have HW6 := Lib.hid (HW5.out.trans (hb6.mono HW5.out.size))
  have hs6 : w2.heap.size < w6.heap.size := by have := hb6.size; omega
  clear hb6 HHA R4 R7 Y4 Y5 Y6 Z4 Z5 Z6 LC LB5 HW5
  go_wp2_with fail
  refine HSA.out.mono ?_
  rintro en w7 ⟨rfl, hb7⟩
  have HW7 := Lib.hid (HW6.out.trans (hb7.mono HW6.out.size))
  have HB7 := Lib.hid hb7
  clear hb7 HSA m0 m1 m2 m3 m4 m5 m6 n0 n1 n2 n3 n4 n5 n6
  by_cases he : e' = 0
  · subst he
    obtain ⟨hbs, hcan, hlen, hz⟩ := take_back bs HB.out zs' m' HTK.out
    obtain ⟨m0, m1, m2, m3, m4, m5, m6⟩ := box7 (R46.out.below HB7.out hs6)
    have HPU := Lib.hid (Ip.put B cB zs' m' B4 B5 B6 d4 d5 d6 w7 (LB6.out.below HB7.out) hz (V4.out.below HB7.out) (V5.out.below HB7.out) (V6.out.below HB7.out) hcan hlen)
    have HBS := Lib.hid hbs
    clear hbs hcan hz
    go_wp2_with fail
    refine HPU.out.mono ?_
    rintro en w8 ⟨A9, c9, l9, rfl, ho, hb8⟩
    rw [← HBS.out] at ho
    obtain ⟨hl9, ho⟩ := ho
    subst hl9
    have HW8 := Lib.hid (HW7.out.trans (hb8.mono HW7.out.size))
    have hk1 := conv_d (c := c9) (lies_own ho)
    have hk2 := conv_d (c := cap) (HL.out.below HW8.out)
    clear hb8 ho HPU m0 m1 m2 m3 m4 m5 m6
    go_wp2_with (go_at_call 9; (with_reducible refine (lives _).mono ?_); rintro e w9 ⟨rfl, hb9⟩; have HB9 := Lib.hid (HW8.out.trans (hb9.mono HW8.out.size)); clear hb9)
    go_ret
    exact ⟨rfl, HB9.out⟩
  · have hne : (e' != 0) = true := bne_iff_ne.2 he
    go_wp2_with (go_at_call 9; (with_reducible refine (lives _).mono ?_); rintro e w9 ⟨rfl, hb9⟩; have HB9 := Lib.hid (HW7.out.trans (hb9.mono HW7.out.size)); clear hb9)
    go_ret
    exact ⟨rfl, HB9.out⟩
end Go.Proofs.Ytgcmbleinobneaa.imageTakes
