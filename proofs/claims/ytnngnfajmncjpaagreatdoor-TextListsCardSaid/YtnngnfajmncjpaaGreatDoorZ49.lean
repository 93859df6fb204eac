/- DERIVED. TxLw in one text. By an AI agent. -/
import Derived.Test.YtnngnfajmncjpaaGreatDoorZ33
import Derived.Test.YtnngnfajmncjpaaGreatDoorZ46
import Derived.Test.YtnngnfajmncjpaaGreatDoorZ47
import Derived.Test.YtnngnfajmncjpaaGreatDoorZ27
import Derived.Test.YtnngnfajmncjpaaGreatDoorZ48
import Derived.Test.YtnngnfajmncjpaaGreatDoorZ11
/- DERIVED. The walk of TextLists. By an AI agent. -/
namespace Go.Proofs.YtnngnfajmncjpaaGreatDoor.textLists
open Go.ChangeShapes Go.WideShapes Go.ChangeAt Go.RowKit Go.Lib Go.Sort Args Tx
set_option linter.unusedVariables false
theorem nat_list (xs : List Int) (h : ∀ z ∈ xs, 0 ≤ z) : ∃ zs : List Nat, xs = zs.map (fun z : Nat => (z : Int)) := by
  refine ⟨xs.map Int.toNat, ?_⟩
  rw [List.map_map]
  conv => lhs; rw [← List.map_id xs]
  exact List.map_congr_left fun z hz => by have := h z hz; simp; omega
theorem lies_take {W : World} {A : Option Addr} {zs : List Nat} (h : Lies W A (u16s zs)) (k : Nat) : Lies W A (u16s (zs.take k)) := fun j u hj => by
  refine h j u ?_
  unfold u16s at *
  rw [List.map_take, List.getElem?_take] at hj
  split at hj
  · exact hj
  · cases hj
theorem slT (W : World) (b o n cap : Nat) (h : 300 ≤ cap) : (Instr.slice 22 (.slice (some ⟨b, o, none⟩) n cap) none (some (.int .i64 300)) none).run Tryz.prog W = .ok (.slice (some ⟨b, o, none⟩) 300 cap) W := by
  have h2 : (300 : Int) ≤ cap := by omega
  have h3 : cap ≠ 0 := by omega
  rw [run_slice_h W 22 _ n cap (show Tryz.prog.underlying 22 = some (.slice (Tryz.prog.elem 22)) by kernel_rfl) .i64 300 (by decide) h2]
  go_simp
theorem grown_below {W w' : World} (h : (W.alloc (.cells #[] 34)).grownBy w' (some W.heap.size)) : Below W.heap.size W w' :=
  ((Below.refl W.heap.size W).alloc (Nat.le_refl _) _).grown h (by simp) fun k e => by cases e; exact Nat.le_refl _
set_option maxRecDepth 100000 in
set_option maxHeartbeats 8000000 in
theorem walk (W : World) (v : Value) (xs : List Int) (hv : Ints .u16 2 W v xs) (hL : Lz W) :
    Calls Tryz.prog 3 #[v] W fun e w' => e = .returned (.bool true) ∧ Below W.heap.size W w' := by
  obtain ⟨A, cap, rfl, hlc, hcm, hLi⟩ := hv.ex
  have hl := hv.reach
  have hb : ∀ z ∈ xs, 0 ≤ z ∧ z < 65536 := fun z hz => by
    have := hv.wf z hz
    simp [Lit.wf, show IntKind.u16.min = 0 from rfl, show IntKind.u16.max = 65535 from rfl] at this
    omega
  obtain ⟨zs, rfl⟩ := nat_list xs fun z hz => (hb z hz).1
  have hz : ∀ z ∈ zs, z < 65536 := fun z hz => by have := (hb z (List.mem_map_of_mem hz)).2; omega
  have hLi : Lies W A (u16s zs) := by rw [List.map_map] at hLi; exact hLi
  rw [List.length_map] at hlc hl
  rw [List.length_map]
  clear hv hb
  obtain ⟨n, ys, hn, hcase, hys, hly⟩ : ∃ (n : Nat) (ys : List Nat), ys.length = n ∧ ((300 < zs.length ∧ n = 300) ∨ (¬ 300 < zs.length ∧ n = zs.length)) ∧ (∀ z ∈ ys, z < 65536) ∧ Lies W A (u16s ys) := by
    by_cases h : 300 < zs.length
    · exact ⟨300, zs.take 300, by rw [List.length_take]; omega, .inl ⟨h, rfl⟩, fun z hzz => hz z (List.mem_of_mem_take hzz), lies_take hLi 300⟩
    · exact ⟨zs.length, zs, rfl, .inr ⟨h, rfl⟩, hz, hLi⟩
  have hn3 : n ≤ 300 := by rcases hcase with ⟨h, rfl⟩ | ⟨h, rfl⟩ <;> omega
  obtain ⟨i0, hi, hz0, hz1, hz2⟩ := info_parts infoU
  have HI := Lib.hid hi; have HZ0 := Lib.hid hz0; have HZ1 := Lib.hid hz1; have HZ2 := Lib.hid hz2
  have HLS := Lib.hid fun A1 c1 W1 h1 h2 => hn ▸ listC A1 c1 ys hys (by omega) W1 h1 h2
  have HPG := Lib.hid fun W1 h1 => progC ys hys (by omega) W1 h1
  have HRL := Lib.hid fun W1 (h1 : Below W.heap.size W W1) => hn ▸ rlist A cap ys hys (by omega) W1 (hly.below h1)
  have HHV := Lib.hid fun A2 c2 W1 (h1 : Below W.heap.size W W1) h2 => hn ▸ halvesEq A2 A c2 cap ys W1 h2 (hly.below h1) (by omega)
  have HLA := Lib.hid (hly.below ((Below.refl W.heap.size W).alloc (Nat.le_refl _) (.cells #[] 34)))
  have HLEN := Lib.hid (show (u16s ys).length = n * 1 by simp [u16s, hn])
  have HONE := Lib.hid (show ∀ u ∈ u16s ys, u.oneCell' = true by simp [u16s, Value.oneCell'])
  have HL := Lib.hid hL
  have hsl : 300 < zs.length → (Instr.slice 22 (.slice A zs.length cap) none (some (.int .i64 300)) none).run Tryz.prog W = .ok (.slice A 300 cap) W := fun h => by
    have f1 : (u16s zs)[0]? = some (.int .u16 ((zs[0]'(by omega) : Nat) : Int)) := by unfold u16s; rw [List.getElem?_map, List.getElem?_eq_getElem (by omega)]; rfl
    obtain ⟨b, o, rfl, _, _⟩ := hLi.at_ f1
    exact slT W b o _ cap (by omega)
  clear hi hz0 hz1 hz2 hL hys hly hLi hz
  rcases hcase with ⟨hc, rfl⟩ | ⟨hc, rfl⟩
  · have hsl := hsl hc
    have hc2 : (300 : Int) < (zs.length : Nat) := by omega
    go_enter Tryz.func3, Tryz.ntmps3
    go_wp2_with (at_builtin; refine wpList_fresh rfl _ _ 22 rfl W.heap.size 34 i0 (.int .u16 0) 1 2 Tryz.underlying22 HI.out HZ0.out HZ1.out HZ2.out rfl (by decide) _ 0 [] rfl (own_empty W (Nat.le_refl _) _ _) _ _ _ (u16s ys) rfl HLEN.out HLA.out HONE.out (by unfold maxLen; omega) (by omega) (by simp) ?_; intro A1 c1 w1 h1 h2 h3 h4; simp only [Nat.zero_add, List.nil_append] at h1 h3; have HO := Lib.hid (lies_own h3); have HB := Lib.hid (grown_below h4); clear h1 h2 h3 h4; rw [Nat.zero_add])
    refine (HLS.out A1 c1 w1 (HL.out.below HB.out) HO.out).mono ?_
    rintro e w2 ⟨rfl, hb2⟩
    have HB2 := Lib.hid (HB.out.trans (hb2.mono HB.out.size))
    clear hb2
    go_wp2_with fail
    refine (HPG.out w2 (HL.out.below HB2.out)).mono ?_
    rintro e w3 ⟨A2, c2, rfl, hl3, hb3⟩
    have HB3 := Lib.hid (HB2.out.trans (hb3.mono HB2.out.size)); have HL3 := Lib.hid hl3
    clear hb3 hl3
    rw [hn]
    go_wp2_with fail
    refine (HRL.out w3 HB3.out).mono ?_
    rintro e w4 ⟨rfl, hb4⟩
    have HB4 := Lib.hid (HB3.out.trans (hb4.mono HB3.out.size)); have HL4 := Lib.hid (HL3.out.below hb4)
    clear hb4
    go_wp2_with fail
    refine (HHV.out A2 c2 w4 HB4.out HL4.out).mono ?_
    rintro e w5 ⟨rfl, hb5⟩
    have HB5 := Lib.hid (HB4.out.trans (hb5.mono HB4.out.size))
    clear hb5
    go_wp2_with fail
    refine (Tx.lives _ (HL.out.lw.below HB5.out)).mono ?_
    rintro e w6 ⟨rfl, hb6⟩
    go_wp2_with fail
    go_ret
    exact ⟨rfl, HB5.out.trans (hb6.mono HB5.out.size)⟩
  · clear hsl
    have hc2 : ¬ (300 : Int) < (zs.length : Nat) := by omega
    go_enter Tryz.func3, Tryz.ntmps3
    go_wp2_with (at_builtin; refine wpList_fresh rfl _ _ 22 rfl W.heap.size 34 i0 (.int .u16 0) 1 2 Tryz.underlying22 HI.out HZ0.out HZ1.out HZ2.out rfl (by decide) _ 0 [] rfl (own_empty W (Nat.le_refl _) _ _) _ _ _ (u16s ys) rfl HLEN.out HLA.out HONE.out (by unfold maxLen; omega) (by omega) (by simp) ?_; intro A1 c1 w1 h1 h2 h3 h4; simp only [Nat.zero_add, List.nil_append] at h1 h3; have HO := Lib.hid (lies_own h3); have HB := Lib.hid (grown_below h4); clear h1 h2 h3 h4; rw [Nat.zero_add])
    refine (HLS.out A1 c1 w1 (HL.out.below HB.out) HO.out).mono ?_
    rintro e w2 ⟨rfl, hb2⟩
    have HB2 := Lib.hid (HB.out.trans (hb2.mono HB.out.size))
    clear hb2
    go_wp2_with fail
    refine (HPG.out w2 (HL.out.below HB2.out)).mono ?_
    rintro e w3 ⟨A2, c2, rfl, hl3, hb3⟩
    have HB3 := Lib.hid (HB2.out.trans (hb3.mono HB2.out.size)); have HL3 := Lib.hid hl3
    clear hb3 hl3
    rw [hn]
    go_wp2_with fail
    refine (HRL.out w3 HB3.out).mono ?_
    rintro e w4 ⟨rfl, hb4⟩
    have HB4 := Lib.hid (HB3.out.trans (hb4.mono HB3.out.size)); have HL4 := Lib.hid (HL3.out.below hb4)
    clear hb4
    go_wp2_with fail
    refine (HHV.out A2 c2 w4 HB4.out HL4.out).mono ?_
    rintro e w5 ⟨rfl, hb5⟩
    have HB5 := Lib.hid (HB4.out.trans (hb5.mono HB4.out.size))
    clear hb5
    go_wp2_with fail
    refine (Tx.lives _ (HL.out.lw.below HB5.out)).mono ?_
    rintro e w6 ⟨rfl, hb6⟩
    go_wp2_with fail
    go_ret
    exact ⟨rfl, HB5.out.trans (hb6.mono HB5.out.size)⟩
end Go.Proofs.YtnngnfajmncjpaaGreatDoor.textLists
