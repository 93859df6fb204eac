/- DERIVED. The walk of the law that registers rise. By an AI agent. -/
import Derived.Test.YtckdffcfemekcaaDoorTpRegs
namespace Go.Proofs.YtckdffcfemekcaaDoor
open Go.ChangeShapes Go.WideShapes Go.ChangeAt Go.RowKit Go.Sort ThRef Tp
set_option linter.unusedVariables false
/-- What a list of registers is: at most three, rising, each from 0 to 7. -/
def Tp.Ris (L : List Int) : Prop := L.length ≤ 3 ∧ (∀ k, k < L.length → 0 ≤ L[k]?.getD 0 ∧ L[k]?.getD 0 ≤ 7) ∧ ∀ k, k + 1 < L.length → L[k]?.getD 0 < L[k + 1]?.getD 0
theorem Tp.fil_mem (f : Nat → Bool) (n : Nat) : ∀ x ∈ fil f n, 0 ≤ x ∧ x < n := fun x hx => by
  unfold fil at hx
  rw [List.mem_map] at hx
  obtain ⟨r, hr, rfl⟩ := hx
  rw [List.mem_filter, List.mem_range] at hr
  omega
theorem Tp.fil_rise (f : Nat → Bool) : ∀ n k, k + 1 < (fil f n).length → (fil f n)[k]?.getD 0 < (fil f n)[k + 1]?.getD 0
  | 0, k, h => by simp [fil] at h
  | n + 1, k, h => by
    cases hf : f n
    · rw [fil_no f n hf] at h ⊢
      exact Tp.fil_rise f n k h
    · rw [fil_yes f n hf] at h ⊢
      rw [List.length_append] at h
      simp at h
      by_cases hk : k + 1 < (fil f n).length
      · rw [List.getElem?_append_left (by omega), List.getElem?_append_left hk]
        exact Tp.fil_rise f n k hk
      · have e : k + 1 = (fil f n).length := by omega
        rw [List.getElem?_append_left (by omega), List.getElem?_append_right (by omega), e, Nat.sub_self]
        have hk' : k < (fil f n).length := by omega
        have hm := Tp.fil_mem f n ((fil f n)[k]'hk') (List.getElem_mem hk')
        rw [List.getElem?_eq_getElem hk']
        simp
        omega
theorem Tp.fil_three (f : Nat → Bool) (a b c : Int) (h : ∀ r : Nat, f r = true → (r : Int) = a ∨ (r : Int) = b ∨ (r : Int) = c) : (fil f 8).length ≤ 3 := by
  have hs : ∀ k, k < (fil f 8).length → (fil f 8)[k]?.getD 0 = a ∨ (fil f 8)[k]?.getD 0 = b ∨ (fil f 8)[k]?.getD 0 = c := fun k hk => by
    have hx := List.getElem_mem hk
    rw [List.getElem?_eq_getElem hk, Option.getD_some]
    generalize (fil f 8)[k] = x at hx
    unfold fil at hx
    rw [List.mem_map] at hx
    obtain ⟨r, hr, rfl⟩ := hx
    exact h r (List.mem_filter.1 hr).2
  have hr := Tp.fil_rise f 8
  false_or_by_contra
  have s0 := hs 0 (by omega); have s1 := hs 1 (by omega); have s2 := hs 2 (by omega); have s3 := hs 3 (by omega)
  have r0 := hr 0 (by omega); have r1 := hr 1 (by omega); have r2 := hr 2 (by omega)
  simp only [Nat.zero_add, Nat.reduceAdd] at r0 r1 r2
  omega
theorem Tp.readsL_ris (op d n m imm : Int) : Tp.Ris (readsL op d n m imm) := by
  unfold readsL
  split
  · refine ⟨Tp.fil_three _ d n m (fun r hr => ?_), fun k hk => ?_, fun k hk => Tp.fil_rise _ 8 k hk⟩
    · unfold msk at hr
      simp at hr
      omega
    · rw [List.getElem?_eq_getElem hk]
      have := Tp.fil_mem _ 8 _ (List.getElem_mem hk)
      simp
      omega
  · exact ⟨by simp, fun k hk => by simp at hk, fun k hk => by simp at hk⟩
theorem Tp.wrV_in (op d n m imm : Int) : ∃ (x : Int) (c : Bool), wrV op d n m imm = .tuple #[.int .i64 x, .bool c] ∧ 0 ≤ x ∧ x ≤ 7 ∧ (c = true ∨ x = 0) := by
  unfold wrV
  split
  · rename_i h
    simp at h
    have h18 : op ≠ 18 := by
      intro e; have := h.2; simp [setsB, e] at this
    have := (can_bounds op d n m imm h.1).1
    exact ⟨_, _, rfl, by omega, can_d7 op d n m imm h.1 h18, .inl rfl⟩
  · exact ⟨0, false, rfl, by omega, by omega, .inr rfl⟩
theorem Tp.takeF_in (h : Nat) : ∀ n op, (takeF n op h).2.2 = 0 ∨ takeF n op h = (0, nul, 20)
  | 0, op => .inr rfl
  | n + 1, op => by
    rw [takeF]
    split
    · exact .inl rfl
    · exact Tp.takeF_in h n (op + 1)
theorem Tp.take_in (h : Nat) : ∃ (k e : Nat) (s : Nums), takeF 21 0 h = (k, s, e) ∧ (e = 0 ∨ e = 20 ∧ k = 0 ∧ s = nul) := by
  generalize hr : takeF 21 0 h = r
  obtain ⟨k, s, e⟩ := r
  have := Tp.takeF_in h 21 0
  rw [hr] at this
  refine ⟨k, e, s, rfl, ?_⟩
  rcases this with h1 | h1
  · exact .inl h1
  · simp at h1; exact .inr ⟨h1.2.2, h1.1, h1.2.1⟩
set_option maxRecDepth 100000 in
set_option maxHeartbeats 8000000 in
theorem thumbRises.walk (a : Int) (hw : (Lit.int .u16 a).wf = true) (W : World) (hT : Tb W) :
    Calls Tryd.prog 7 #[.int .u16 a] W fun e w' => e = .returned (.bool true) ∧ Below W.heap.size W w' := by
  have hb := bounds_u16 hw
  obtain ⟨hf, rfl⟩ := Int.eq_ofNat_of_zero_le hb.1
  have htk := takeP hf (by omega)
  obtain ⟨k, e, s, htf, hes⟩ := Tp.take_in hf
  rw [htf, Tp.resV_eq] at htk
  clear hb hw htf
  have h1 := Tp.writes k s.d s.n s.m s.i
  have h3 := Tp.reads k s.d s.n s.m s.i
  obtain ⟨x, c, hwr, hx0, hx7, hxc⟩ := Tp.wrV_in k s.d s.n s.m s.i
  have hri := Tp.readsL_ris k s.d s.n s.m s.i
  rw [hwr] at h1
  generalize readsL k s.d s.n s.m s.i = L at h3 hri
  have HT := Lib.hid hT; have H1 := Lib.hid h1; have H3 := Lib.hid h3; have HTK := Lib.hid htk; have HRI := Lib.hid hri; have HES := Lib.hid hes; have HXC := Lib.hid hxc
  clear hT h1 h3 htk hwr hri hes hxc
  go_enter Tryd.func7, Tryd.ntmps7
  go_wp2_with fail
  refine (HTK.out _ HT.out).mono ?_
  rintro z w1 ⟨rfl, hb1⟩
  have HB1 := Lib.hid hb1
  clear hb1
  go_wp2_with fail
  refine (H3.out _ (HT.out.below (HB1.out.alloc HB1.out.size _))).mono ?_
  rintro z w2 ⟨p, cap, rfl, hrd, hb2⟩
  obtain ⟨⟨q0, q1, q2, q3, q4⟩, hbw, hz⟩ := Tp.cells5 hb2
  have HB2 := Lib.hid (HB1.out.trans (hbw.mono HB1.out.size)); have HRD := Lib.hid hrd
  clear hb2 hbw hrd
  go_wp2_with fail
  refine (H1.out _ (HT.out.below HB2.out)).mono ?_
  rintro z w3 ⟨rfl, hb3⟩
  have p0 := (hb3.cell (p := ⟨w1.heap.size, 0, none⟩) hz).trans q0
  have p1 := (hb3.cell (p := ⟨w1.heap.size, 1, none⟩) hz).trans q1
  have p2 := (hb3.cell (p := ⟨w1.heap.size, 2, none⟩) hz).trans q2
  have p3 := (hb3.cell (p := ⟨w1.heap.size, 3, none⟩) hz).trans q3
  have p4 := (hb3.cell (p := ⟨w1.heap.size, 4, none⟩) hz).trans q4
  have HB3 := Lib.hid (HB2.out.trans (hb3.mono HB2.out.size)); have HRD3 := Lib.hid (Tp.reads_below HRD.out hb3)
  have HPS := Lib.hid (And.intro p0 (And.intro p1 (And.intro p2 (And.intro p3 p4))))
  have hlen : L.length ≤ 3 := HRI.out.1
  clear q0 q1 q2 q3 q4 hb3 hz HRD p0 p1 p2 p3 p4
  go_wp2_with fail
  go_loopw [8] (fun vi wr => ∃ (j nd : Nat), j ≤ L.length ∧ vi = .int .i64 j ∧ wr = w3.drewN nd) (fun vi _ => L.length - (intOf vi).toNat)
  case atStart => exact ⟨0, 0, by omega, rfl, rfl⟩
  case round =>
    obtain ⟨j, nd, hj, rfl, rfl⟩ := hrel
    by_cases hlt : j < L.length
    · rcases HRD3.out with e0 | ⟨g, o, rfl, hcell⟩
      · rw [e0] at hlt; exact absurd hlt (by simp)
      have q1 := hcell j hlt
      have hv := HRI.out.2.1 j hlt
      by_cases hj0 : j = 0
      · generalize L[j]?.getD 0 = v at q1 hv
        obtain ⟨v0, v7⟩ := hv
        have d1 : decide (v < 0) = false := by simp; omega
        have d2 : decide (7 < v) = false := by simp; omega
        have d3 : decide (0 < j) = false := by simp; omega
        clear hcell hj0 v0 v7
        go_wp2_with fail
        go_quiet (fail)
        go_wp2_with fail
        go_roundw
        case rel => exact ⟨j + 1, _, by omega, by go_num, rfl⟩
        case measure => simp [intOf]; omega
      · have q2 := hcell (j - 1) (by omega)
        have hlt2 := HRI.out.2.2 (j - 1) (by omega)
        rw [show j - 1 + 1 = j by omega] at hlt2
        generalize L[j]?.getD 0 = v at q1 hv hlt2
        generalize L[j - 1]?.getD 0 = u at q2 hlt2
        obtain ⟨v0, v7⟩ := hv
        have d1 : decide (v < 0) = false := by simp; omega
        have d2 : decide (7 < v) = false := by simp; omega
        have d3 : decide (0 < j) = true := by simp; omega
        have d4 : decide (v ≤ u) = false := by simp; omega
        have s1 : IntKind.i64.wrap ((j : Int) - 1) = (j : Int) - 1 := IntWalk.i64_in _ (by omega)
        have s2 : 0 ≤ (j : Int) - 1 := by omega
        have s3 : ((j : Int) - 1).toNat = j - 1 := by omega
        have s4 : (j : Int) - 1 < L.length := by omega
        clear hcell hj0 v0 v7 hlt2
        go_wp2_with fail
        go_quiet (fail)
        go_wp2_with fail
        go_roundw
        case rel => exact ⟨j + 1, _, by omega, by go_num, rfl⟩
        case measure => simp [intOf]; omega
    · obtain ⟨p0, p1, p2, p3, p4⟩ := HPS.out
      rcases HES.out with he | ⟨he, hk, hs⟩
      · subst he
        rcases HXC.out with hc | hc
        · subst hc
          go_wp2_with (go_at_call 12; refine (Tp.lives _ (HT.out.below (below_drewN HB3.out _))).mono ?_; rintro e w6 ⟨rfl, hb6⟩)
          go_ret
          exact ⟨rfl, (below_drewN HB3.out _).trans (hb6.mono HB3.out.size)⟩
        · subst hc
          cases c
          all_goals
            go_wp2_with (go_at_call 12; refine (Tp.lives _ (HT.out.below (below_drewN HB3.out _))).mono ?_; rintro e w6 ⟨rfl, hb6⟩)
            go_ret
            exact ⟨rfl, (below_drewN HB3.out _).trans (hb6.mono HB3.out.size)⟩
      · subst he hk hs
        have p1' : w3.cell? ⟨w1.heap.size, 1, none⟩ = some (.int .i64 0) := p1
        have p2' : w3.cell? ⟨w1.heap.size, 2, none⟩ = some (.int .i64 0) := p2
        have p3' : w3.cell? ⟨w1.heap.size, 3, none⟩ = some (.int .i64 0) := p3
        have p4' : w3.cell? ⟨w1.heap.size, 4, none⟩ = some (.int .i64 0) := p4
        clear p1 p2 p3 p4
        rcases HXC.out with hc | hc
        · subst hc
          go_wp2_with (go_at_call 12; refine (Tp.lives _ (HT.out.below (below_drewN HB3.out _))).mono ?_; rintro e w6 ⟨rfl, hb6⟩)
          go_ret
          exact ⟨rfl, (below_drewN HB3.out _).trans (hb6.mono HB3.out.size)⟩
        · subst hc
          cases c
          all_goals
            go_wp2_with (go_at_call 12; refine (Tp.lives _ (HT.out.below (below_drewN HB3.out _))).mono ?_; rintro e w6 ⟨rfl, hb6⟩)
            go_ret
            exact ⟨rfl, (below_drewN HB3.out _).trans (hb6.mono HB3.out.size)⟩
end Go.Proofs.YtckdffcfemekcaaDoor
