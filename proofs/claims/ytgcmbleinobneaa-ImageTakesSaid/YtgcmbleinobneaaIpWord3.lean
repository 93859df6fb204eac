/- DERIVED. The walk of ImageWords. By an AI agent. -/
import Derived.Test.YtgcmbleinobneaaIpWord2
namespace Go.Proofs.Ytgcmbleinobneaa.Ip
open Go.ChangeShapes Go.WideShapes Go.ChangeAt Go.RowKit Args ImRef
set_option linter.unusedVariables false
theorem infoB8 : (Try.prog.info? 5).map (fun i => (i.zero, i.size, i.bytes)) = some (some (.int .u8 0), 1, 1) := by kernel_rfl
theorem cnt2 (L : Nat) : cnt L 2 = (L + 1) / 2 := rfl
theorem words_len (xs : List Int) : (wordsL xs).length = cnt xs.length 2 := by simp [wordsL]
theorem words_at (xs : List Int) (j : Nat) (h : j < cnt xs.length 2) : (wordsL xs)[j]? = some (pcn xs 2 j) := by
  unfold wordsL
  rw [List.getElem?_map, List.getElem?_range h]; rfl
theorem pcl2_even (xs : List Int) (i : Nat) (x : Int) (hx : xs[i]? = some x) (he : i % 2 = 0) : ∃ r, pcl xs 2 (i / 2) = x :: r := by
  unfold pcl
  have hi : i / 2 * 2 = i := by omega
  obtain ⟨h, rfl⟩ := List.getElem?_eq_some_iff.1 hx
  rw [hi, List.drop_eq_getElem_cons h]
  exact ⟨_, rfl⟩
theorem pcl2_odd (xs : List Int) (i : Nat) (x : Int) (hx : xs[i]? = some x) (ho : i % 2 = 1) : ∃ y, y ∈ xs ∧ pcl xs 2 (i / 2) = [y, x] := by
  unfold pcl
  obtain ⟨h, rfl⟩ := List.getElem?_eq_some_iff.1 hx
  have h1 : i / 2 * 2 < xs.length := by omega
  rw [List.drop_eq_getElem_cons h1]
  have hi : i / 2 * 2 + 1 = i := by omega
  have h2 : xs.drop (i / 2 * 2 + 1) = xs[i] :: xs.drop (i + 1) := by rw [hi]; exact List.drop_eq_getElem_cons h
  rw [h2]
  exact ⟨_, List.getElem_mem h1, rfl⟩
theorem byte_of (xs : List Int) (hb : ∀ z ∈ xs, 0 ≤ z ∧ z < 256) (i : Nat) (x : Int) (hx : xs[i]? = some x) : pcn xs 2 (i / 2) / 2 ^ (8 * (i % 2)) % 256 = x := by
  have hx0 := hb x (List.mem_of_getElem? hx)
  rcases Nat.mod_two_eq_zero_or_one i with h | h
  · obtain ⟨r, hr⟩ := pcl2_even xs i x hx h
    unfold pcn
    rw [hr, h]
    simp only [numL]
    simp
    omega
  · obtain ⟨y, hy, hr⟩ := pcl2_odd xs i x hx h
    have hy0 := hb y hy
    unfold pcn
    rw [hr, h]
    simp only [numL]
    simp
    omega
theorem last_of (xs : List Int) (hb : ∀ z ∈ xs, 0 ≤ z ∧ z < 256) (ho : xs.length % 2 = 1) : pcn xs 2 (cnt xs.length 2 - 1) < 256 := by
  have h1 : cnt xs.length 2 - 1 = (xs.length - 1) / 2 := by rw [cnt2]; omega
  have h2 : (pcl xs 2 (cnt xs.length 2 - 1)).length = 1 := by rw [pcl_len, h1]; omega
  have h3 := (numL_bd (pcl xs 2 (cnt xs.length 2 - 1)) fun z hz => hb z (pcl_mem hz)).2
  rw [h2] at h3
  unfold pcn
  simpa using h3
end Go.Proofs.Ytgcmbleinobneaa.Ip
namespace Go.Proofs.Ytgcmbleinobneaa.imageWords
open Go.ChangeShapes Go.WideShapes Go.ChangeAt Go.RowKit Args ImRef Ip
set_option linter.unusedVariables false
set_option maxHeartbeats 2000000 in
theorem walk (W : World) (v : Value) (xs : List Int) (hv : Ints .u8 1 W v xs) :
    Calls Try.prog 6 #[v] W fun e w' => e = .returned (.bool true) ∧ Below W.heap.size W w' := by
  obtain ⟨A, cap, rfl, hlc, hcm, hL⟩ := hv.ex
  have hl := hv.reach
  have hb : ∀ z ∈ xs, 0 ≤ z ∧ z < 256 := fun z hz => by
    have := hv.wf z hz
    simp [Lit.wf, show IntKind.u8.min = 0 from rfl, show IntKind.u8.max = 255 from rfl] at this
    omega
  rw [Nat.mul_one] at hl
  obtain ⟨i0, hi, hz0, hz1, hz2⟩ := info_parts infoB8
  have HL := Lib.hid hL
  have HLA := Lib.hid (hL.below ((Below.refl W.heap.size W).alloc (Nat.le_refl _) (.cells #[] 5)))
  have HI := Lib.hid hi; have HZ0 := Lib.hid hz0; have HZ1 := Lib.hid hz1; have HZ2 := Lib.hid hz2; have HX := Lib.hid hb
  have hq : ((cnt xs.length 2 : Nat) : Int) = ((xs.length : Int) + 1) / 2 := by rw [cnt2]; omega
  have hne : (((cnt xs.length 2 : Nat) : Int) != ((xs.length : Int) + 1) / 2) = false := by rw [hq]; simp
  have hcn1 : xs.length ≤ 2 * cnt xs.length 2 := by rw [cnt2]; omega
  have hcn2 : 2 * cnt xs.length 2 ≤ xs.length + 1 := by rw [cnt2]; omega
  clear hL hi hz0 hz1 hz2 hv hb hq
  go_enter Try.func6, Try.ntmps6
  go_wp2_with ((first
    | (at_builtin; refine wpList_fresh rfl _ _ 28 rfl W.heap.size 5 i0 (.int .u8 0) 1 1 Try.underlying28 HI.out HZ0.out HZ1.out HZ2.out rfl (by decide) _ 0 [] rfl (own_empty W (Nat.le_refl _) _ _) A xs.length cap (xs.map (.int .u8)) rfl (by simp) HLA.out (by simp [Value.oneCell']) (by unfold maxLen; omega) (by omega) (by simp) ?_; intro A1 c1 w1 h1 h2 h3 h4; simp only [Nat.zero_add, List.nil_append] at h1 h3; have HO := Lib.hid (lies_own h3); have HB := Lib.hid (grown_new (Below.refl W.heap.size W) h4); have HC1 := Lib.hid h1; have HC2 := Lib.hid h2; clear h1 h2 h3 h4; rw [Nat.zero_add])
    | (go_at_call 19; (with_reducible refine (words A1 c1 xs w1 HO.out HX.out hl HC1.out HC2.out).mono ?_); rintro e w2 ⟨v2, rfl, hs2, hb2⟩; have HB2 := Lib.hid (HB.out.trans (hb2.mono HB.out.size)); have HS2 := Lib.hid hs2; clear hb2 hs2; obtain ⟨A2, c2, rfl, k1, k2, k3⟩ := HS2.out; have HL2 := Lib.hid k3; clear k1 k2 k3 HS2)))
  go_loopw [4] (fun vi wr => ∃ i : Nat, i ≤ xs.length ∧ vi = .int .i64 i ∧ Hid (Below W.heap.size W wr ∧ Lies wr A2 ((wordsL xs).map (.int .u16)))) (fun vi _ => xs.length - (intOf vi).toNat)
  case atStart => exact ⟨0, by omega, rfl, Lib.hid ⟨HB2.out, HL2.out⟩⟩
  case round =>
    obtain ⟨i, hi, rfl, HH⟩ := hrel
    by_cases hlt : i < xs.length
    · obtain ⟨x, hx⟩ : ∃ x, xs[i]? = some x := ⟨_, List.getElem?_eq_getElem hlt⟩
      have hbo := byte_of xs HX.out i x hx
      have hx0 := HX.out x (List.mem_of_getElem? hx)
      have hj : i / 2 < cnt xs.length 2 := by omega
      have hw : (wordsL xs)[i / 2]? = some (pcn xs 2 (i / 2)) := words_at xs _ hj
      have hq := pcn_bd xs 2 (i / 2) (by decide) HX.out
      generalize pcn xs 2 (i / 2) = q at hbo hw hq
      have f1 : (xs.map (Value.int .u8))[i]? = some (.int .u8 x) := by simp [hx]
      have f2 : ((wordsL xs).map (Value.int .u16))[i / 2]? = some (.int .u16 q) := by simp [hw]
      obtain ⟨b, o, rfl, _, hcell⟩ := (HL.out.below HH.out.1).at_ f1
      obtain ⟨b2, o2, rfl, _, hcell2⟩ := HH.out.2.at_ f2
      have e1 := hcell _ _ f1
      have e2 := hcell2 _ _ f2
      have hd : (q / 2 ^ (8 * (i % 2)) % 256 != x) = false := by rw [hbo]; simp
      clear hx hw f1 f2 hcell hcell2 hbo
      go_wp2_with fail
      go_quiet (fail)
      go_wp2_with fail
      go_roundw
      case rel => exact ⟨i + 1, by omega, by go_num, Lib.hid ⟨below_drewN HH.out.1 nq, HH.out.2.drewN nq⟩⟩
      case measure => simp [intOf]; omega
    · rcases Nat.mod_two_eq_zero_or_one xs.length with hm | hm
      · have hm0 : (xs.length : Int) % 2 = 0 := by omega
        have hmb : ((xs.length : Int) % 2 == 0) = true := by simp [hm0]
        clear hm hm0
        go_wp2_with (go_at_call 9; (with_reducible refine (lives _).mono ?_); rintro e w3 ⟨rfl, hb3⟩; have HB3 := Lib.hid (HH.out.1.trans (hb3.mono HH.out.1.size)); clear hb3)
        go_ret
        exact ⟨rfl, HB3.out⟩
      · have hm0 : (xs.length : Int) % 2 = 1 := by omega
        have hmb : ((xs.length : Int) % 2 == 0) = false := by simp [hm0]
        have hj : cnt xs.length 2 - 1 < cnt xs.length 2 := by omega
        have hw : (wordsL xs)[cnt xs.length 2 - 1]? = some (pcn xs 2 (cnt xs.length 2 - 1)) := words_at xs _ hj
        have hq := pcn_bd xs 2 (cnt xs.length 2 - 1) (by decide) HX.out
        have hq2 := last_of xs HX.out hm
        generalize pcn xs 2 (cnt xs.length 2 - 1) = q at hw hq hq2
        have f2 : ((wordsL xs).map (Value.int .u16))[cnt xs.length 2 - 1]? = some (.int .u16 q) := by simp [hw]
        obtain ⟨b2, o2, rfl, _, hcell2⟩ := HH.out.2.at_ f2
        have e2 := hcell2 _ _ f2
        clear hm hm0 hw f2 hcell2
        go_wp2_with (go_at_call 9; (with_reducible refine (lives _).mono ?_); rintro e w3 ⟨rfl, hb3⟩; have HB3 := Lib.hid (HH.out.1.trans (hb3.mono HH.out.1.size)); clear hb3)
        go_ret
        exact ⟨rfl, HB3.out⟩
end Go.Proofs.Ytgcmbleinobneaa.imageWords
