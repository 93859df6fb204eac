/- DERIVED. ShPt, ShNm in one text. By an AI agent. -/
import Derived.Test.YtpoepignpdfleaaGreatDoorZ04
import Derived.Test.YtpoepignpdfleaaGreatDoorZ06
import Derived.StillTailTactics
/- DERIVED. The reference's Parts, of any tree. By an AI agent. -/
namespace Go.Proofs.YtpoepignpdfleaaGreatDoor.Sh
open Go Go.ChangeShapes Go.WideShapes Go.ChangeAt Go.RowKit Lx Args Pa
set_option linter.unusedVariables false
set_option linter.unusedSimpArgs false
mutual
theorem TIz.below {q : Prop} {w w' : World} (hb : Below w.heap.size w w') : ∀ {z : Tz} {cs : List Value}, TIc q w z cs → TIc q w' z cs
  | .mk k a s n ps l, cs, h => by
    unfold TIc at h ⊢
    obtain ⟨A, cA, B, cB, h1, h2, h3, h9, css, h10, h11, h12⟩ := h
    exact ⟨A, cA, B, cB, h1, h2, h3, h9.below hb, css, h10.below hb, TsIz.below hb h11, h12⟩
theorem TsIz.below {q : Prop} {w w' : World} (hb : Below w.heap.size w w') : ∀ {l : List Tz} {css : List (List Value)}, TsIc q w l css → TsIc q w' l css
  | [], _, h => by unfold TsIc at h ⊢; exact h
  | x :: l, _, h => by
    unfold TsIc at h ⊢
    obtain ⟨c, r, h1, h2, h3⟩ := h
    exact ⟨c, r, h1, TIz.below hb h2, TsIz.below hb h3⟩
end
mutual
/-- A tree that was read, as one of any kind. -/
theorem tIz_of {N : Nat → Prop} {w : World} : ∀ {x : Tr} {cs : List Value}, TIn N w x cs → TIc True w (embz x) cs
  | .mk k a s n ps l, cs, h => by
    unfold TIn at h
    obtain ⟨A, cA, B, cB, rfl, h1, h2, h3, _, css, h4, _, h5⟩ := h
    unfold embz TIc
    have hl : (embs l).length = l.length := embs_len l
    exact ⟨A, cA, B, cB, by rw [hl]; rfl, by rw [hl]; exact Nat.le_trans h1.few (by decide), Nat.le_trans h2 (by decide), h3, css, h4, tsIz_of h5, fun _ => by rw [hl]; exact ⟨h1.le, h1.cap⟩⟩
theorem tsIz_of {N : Nat → Prop} {w : World} : ∀ {l : List Tr} {css : List (List Value)}, TsIn N w l css → TsIc True w (embs l) css
  | [], _, h => by unfold TsIn at h; unfold embs TsIc; exact h
  | x :: l, _, h => by
    unfold TsIn at h
    obtain ⟨c, r, rfl, h2, h3⟩ := h
    unfold embs TsIc
    exact ⟨c, r, rfl, tIz_of h2, tsIz_of h3⟩
end
theorem tIz_cells {q : Prop} {w : World} {z : Tz} {cs : List Value} (h : TIc q w z cs) : ∃ k a s n A la cA B lb cB, cs = nzC k a s n A la cA B lb cB := by
  cases z
  unfold TIc at h
  obtain ⟨A, cA, B, cB, rfl, _⟩ := h
  exact ⟨_, _, _, _, _, _, _, _, _, _, rfl⟩
theorem tsIz_at {q : Prop} {w : World} : ∀ {l : List Tz} {css : List (List Value)}, TsIc q w l css → ∀ (i : Nat) (x : Tz), l[i]? = some x → ∃ c, TIc q w x c ∧ ∀ j, j < 6 → css.flatten[i * 6 + j]? = c[j]?
  | [], _, _, i, x, hx => by simp at hx
  | y :: l, _, h, i, x, hx => by
    unfold TsIc at h
    obtain ⟨c, r, rfl, h2, h3⟩ := h
    have h5 : c.length = 6 := by obtain ⟨_, _, _, _, _, _, _, _, _, _, rfl⟩ := tIz_cells h2; rfl
    cases i with
    | zero =>
      have : y = x := by simpa using hx
      subst this
      refine ⟨c, h2, fun j hj => ?_⟩
      rw [List.flatten_cons, List.getElem?_append_left (by omega)]
      congr 1
      omega
    | succ i =>
      obtain ⟨c', h6, h7⟩ := tsIz_at h3 i x (by simpa using hx)
      refine ⟨c', h6, fun j hj => ?_⟩
      rw [List.flatten_cons, List.getElem?_append_right (by omega), ← h7 j hj]
      congr 1
      omega
theorem partz_at {q : Prop} {w : World} {l : List Tz} {css : List (List Value)} {A : Option Addr} (hL : Lies w A css.flatten) (hT : TsIc q w l css) {i : Nat} {y : Tz} (h : l[i]? = some y) :
    ∃ b o k a s n A' la cA B lb cB, A = some ⟨b, o, none⟩ ∧ TIc q w y (nzC k a s n A' la cA B lb cB) ∧ b < w.heap.size ∧ w.cell? ⟨b, o + i * 6, none⟩ = some (.int .i64 k) ∧ w.cell? ⟨b, o + i * 6 + 1, none⟩ = some (.string ⟨s.toArray⟩) ∧
      w.cell? ⟨b, o + i * 6 + 2, none⟩ = some (.int .u32 (n : Int)) ∧ w.cell? ⟨b, o + i * 6 + 3, none⟩ = some (.int .i64 a) ∧ w.cell? ⟨b, o + i * 6 + 4, none⟩ = some (.slice A' la cA) ∧ w.cell? ⟨b, o + i * 6 + 5, none⟩ = some (.slice B lb cB) := by
  obtain ⟨c, h1, h2⟩ := tsIz_at hT i y h
  obtain ⟨k, a, s, n, A', la, cA, B, lb, cB, rfl⟩ := tIz_cells h1
  have g0 := h2 0 (by omega); have g1 := h2 1 (by omega); have g2 := h2 2 (by omega); have g3 := h2 3 (by omega); have g4 := h2 4 (by omega); have g5 := h2 5 (by omega)
  obtain ⟨b, o, rfl, hb, hc⟩ := hL.at_ (j := i * 6 + 0) (g0.trans rfl)
  refine ⟨b, o, k, a, s, n, A', la, cA, B, lb, cB, rfl, h1, hb, hc _ _ (g0.trans rfl), ?_, ?_, ?_, ?_, ?_⟩
  · rw [Nat.add_assoc]; exact hc _ _ (g1.trans rfl)
  · rw [Nat.add_assoc]; exact hc _ _ (g2.trans rfl)
  · rw [Nat.add_assoc]; exact hc _ _ (g3.trans rfl)
  · rw [Nat.add_assoc]; exact hc _ _ (g4.trans rfl)
  · rw [Nat.add_assoc]; exact hc _ _ (g5.trans rfl)
theorem tIz_parts {q : Prop} {w : World} {k1 a1 : Int} {n1 : Nat} {s1 : Bs} {ps : List Bs} {l : List Tz} {k a s n A la cA B lb cB} (h : TIc q w (.mk k1 a1 s1 n1 ps l) (nzC k a s n A la cA B lb cB)) :
    k = k1 ∧ s = s1 ∧ n = n1 ∧ a = a1 ∧ la = l.length ∧ lb = ps.length ∧ l.length ≤ maxLen ∧ ps.length ≤ maxLen ∧ Lies w B (ps.map strV) ∧ ∃ css, Lies w A css.flatten ∧ TsIc q w l css := by
  unfold TIc at h
  obtain ⟨A1, cA1, B1, cB1, h1, h2, h3, h9, css, h10, h11, _⟩ := h
  unfold nzC at h1
  simp only [List.cons.injEq, Value.int.injEq, Value.slice.injEq, Value.string.injEq, true_and, and_true] at h1
  obtain ⟨e1, e2, e3, e4, ⟨rfl, rfl, rfl⟩, rfl, rfl, rfl⟩ := h1
  refine ⟨e1, ?_, Int.ofNat.inj e3, e4, rfl, rfl, h2, h3, h9, css, h10, h11⟩
  have := congrArg (fun b : ByteArray => b.data.toList) e2
  simpa using this
theorem tIz_cap {w : World} {k1 a1 : Int} {n1 : Nat} {s1 : Bs} {ps : List Bs} {l : List Tz} {k a s n A la cA B lb cB} (h : TIc True w (.mk k1 a1 s1 n1 ps l) (nzC k a s n A la cA B lb cB)) : l.length ≤ cA ∧ cA ≤ maxLen := by
  unfold TIc at h
  obtain ⟨A1, cA1, B1, cB1, h1, _, _, _, css, _, _, h12⟩ := h
  unfold nzC at h1
  simp only [List.cons.injEq, Value.slice.injEq, true_and, and_true] at h1
  obtain ⟨_, _, _, _, ⟨_, _, rfl⟩, _⟩ := h1
  exact h12 trivial
mutual
theorem tIz_weak {q : Prop} {w : World} : ∀ {z : Tz} {cs : List Value}, TIc q w z cs → TIz w z cs
  | .mk k a s n ps l, cs, h => by
    unfold TIc at h ⊢
    obtain ⟨A, cA, B, cB, h1, h2, h3, h9, css, h10, h11, _⟩ := h
    exact ⟨A, cA, B, cB, h1, h2, h3, h9, css, h10, tsIz_weak h11, fun h => h.elim⟩
theorem tsIz_weak {q : Prop} {w : World} : ∀ {l : List Tz} {css : List (List Value)}, TsIc q w l css → TsIz w l css
  | [], _, h => by unfold TsIc at h ⊢; exact h
  | x :: l, _, h => by
    unfold TsIc at h ⊢
    obtain ⟨c, r, h1, h2, h3⟩ := h
    exact ⟨c, r, h1, tIz_weak h2, tsIz_weak h3⟩
end
theorem size_memz {x : Tz} {k a : Int} {n : Nat} {s : Bs} {ps : List Bs} {l : List Tz} {i : Nat} (h : l[i]? = some x) : SizeOf.sizeOf x < SizeOf.sizeOf (Tz.mk k a s n ps l) := by
  have h1 := List.sizeOf_lt_of_mem (List.mem_of_getElem? h)
  simp only [Tz.mk.sizeOf_spec]
  omega
mutual
theorem pa_le : ∀ (z : Tz) (deep most : Nat), pa deep most z ≤ most + 1
  | .mk _ _ _ _ _ l, deep, most => by
    unfold pa
    by_cases h0 : deep = 0 ∨ most = 0
    · rw [if_pos h0]
      exact Nat.le_refl _
    · rw [if_neg h0]
      exact pas_le l _ _ _ (by omega)
theorem pas_le : ∀ (l : List Tz) (deep most k : Nat), k ≤ most + 1 → pas deep most k l ≤ most + 1
  | [], deep, most, k, hk => by unfold pas; exact hk
  | x :: l, deep, most, k, hk => by
    unfold pas
    by_cases h : k ≤ most
    · rw [if_pos h]
      have := pa_le x deep (most - k)
      exact pas_le l _ _ _ (by omega)
    · rw [if_neg h]; exact hk
end
set_option maxRecDepth 100000 in
set_option maxHeartbeats 4000000 in
theorem rparts : ∀ (m : Nat) (x : Tz), SizeOf.sizeOf x < m → ∀ (w : World) (k a : Int) (s : Bs) (n : Nat) (A : Option Addr) (la cA : Nat) (B : Option Addr) (lb cB : Nat) (deep most : Nat), deep ≤ 100000 → most ≤ 100000 → TIz w x (nzC k a s n A la cA B lb cB) →
    Calls Tryz.prog 20 #[.agg #[.int .i64 k, .string ⟨s.toArray⟩, .int .u32 (n : Int), .int .i64 a, .slice A la cA, .slice B lb cB], .int .i64 (deep : Int), .int .i64 (most : Int)] w fun e w' => e = .returned (.int .i64 (pa deep most x : Int)) ∧ Below w.heap.size w w'
  | 0, x, h => absurd h (Nat.not_lt_zero _)
  | m + 1, .mk k1 a1 s1 n1 ps l, hm => fun w k a s n A la cA B lb cB deep most hde hmo hT => by
    obtain ⟨rfl, rfl, rfl, rfl, rfl, rfl, hl, hp, hB, css, hL, hS⟩ := tIz_parts hT
    have hlm : l.length ≤ 9223372036854775807 := hl
    have HL := Lib.hid hL; have HS := Lib.hid hS; have HM := Lib.hid hm
    have IH := Lib.hid (rparts m)
    clear hT hB hL hS hm hp
    by_cases hd0 : deep = 0
    · subst hd0
      have hpa : pa 0 most (.mk k a s n ps l) = most + 1 := by unfold pa; rw [if_pos (.inl rfl)]
      rw [hpa]
      clear hpa
      go_enter Tryz.func20, Tryz.ntmps20
      go_wp2_with fail
      go_ret
      exact ⟨by push_cast; rfl, (Below.refl _ _).alloc (Nat.le_refl _) _⟩
    have hdi : ¬ (deep : Int) < 1 := by omega
    by_cases hm0 : most = 0
    · subst hm0
      have hpa : pa deep 0 (.mk k a s n ps l) = 0 + 1 := by unfold pa; rw [if_pos (.inr rfl)]
      rw [hpa]
      clear hpa
      go_enter Tryz.func20, Tryz.ntmps20
      go_wp2_with fail
      go_ret
      exact ⟨rfl, (Below.refl _ _).alloc (Nat.le_refl _) _⟩
    have hmi : ¬ (most : Int) < 1 := by omega
    have hpa : pa deep most (.mk k a s n ps l) = pas (deep - 1) most 1 l := by unfold pa; rw [if_neg (by omega)]
    rw [hpa]
    clear hpa
    go_enter Tryz.func20, Tryz.ntmps20
    go_wp2_with fail
    go_loopw [7, 8] (fun vk vi wr => ∃ i c0 : Nat, i ≤ l.length ∧ vk = .int .i64 (c0 : Int) ∧ vi = .int .i64 (i : Int) ∧ c0 ≤ most + 1 ∧ Hid (pas (deep - 1) most c0 (l.drop i) = pas (deep - 1) most 1 l) ∧ Hid (Below w.heap.size w wr) ∧ Hid (Blk wr w.heap.size 26 #[.int .i64 k, .string ⟨s.toArray⟩, .int .u32 (n : Int), .int .i64 a, .slice A l.length cA, .slice B ps.length cB])) (fun _ vi _ => l.length - (intOf vi).toNat)
    case atStart => exact ⟨0, 1, by omega, rfl, rfl, by omega, Lib.hid rfl, Lib.hid ((Below.refl _ _).alloc (Nat.le_refl _) _), Lib.hid (Blk.new _ _ _)⟩
    case round =>
      obtain ⟨i, c0, hi, rfl, rfl, hc0, HQ, HH, HX⟩ := hrel
      have g4 := HX.out.cell 4
      have hxl := HX.out.lt
      by_cases hlt : i < l.length
      · have hil : (i : Int) < (l.length : Int) := by omega
        obtain ⟨y, hy⟩ : ∃ y, l[i]? = some y := ⟨_, List.getElem?_eq_getElem hlt⟩
        have hdrop : l.drop i = y :: l.drop (i + 1) := by
          rw [List.drop_eq_getElem_cons hlt]
          congr 1
          rw [List.getElem?_eq_getElem hlt] at hy
          exact Option.some.inj hy
        by_cases hk : c0 ≤ most
        · have hki : (c0 : Int) ≤ (most : Int) := by omega
          obtain ⟨b, o, k', a', s', n', A', la', cA', B', lb', cB', rfl, hTy, hb, e0, e1, e2, e3, e4, e5⟩ := partz_at (HL.out.below HH.out) (TsIz.below HH.out HS.out) hy
          have hsy : SizeOf.sizeOf y < m := by have := size_memz (k := k) (a := a) (n := n) (s := s) (ps := ps) hy; have := HM.out; omega
          have hC := IH.out y hsy wr k' a' s' n' A' la' cA' B' lb' cB' (deep - 1) (most - c0) (by omega) (by omega) hTy
          rw [show ((deep - 1 : Nat) : Int) = (deep : Int) - 1 by omega, show ((most - c0 : Nat) : Int) = (most : Int) - (c0 : Int) by omega] at hC
          have hple := pa_le y (deep - 1) (most - c0)
          have hq := HQ.out
          rw [hdrop] at hq
          conv at hq => lhs; unfold pas
          rw [if_pos hk] at hq
          generalize pa (deep - 1) (most - c0) y = q at hC hple hq
          have HC := Lib.hid hC; have HQ2 := Lib.hid hq
          clear hC hq hTy hy hdrop hsy
          go_wp2_with fail
          refine HC.out.mono ?_
          rintro e w2 ⟨rfl, hb2⟩
          have HB2 := Lib.hid (HH.out.trans (hb2.mono HH.out.size)); have HX2 := Lib.hid (HX.out.below hb2 HX.out.lt)
          clear hb2
          go_wp2_with fail
          go_roundw
          case rel => exact ⟨i + 1, c0 + q, by omega, by push_cast; rfl, by go_num, by omega, HQ2, HB2, HX2⟩
          case measure => simp [intOf]; omega
        · have hki : ¬ (c0 : Int) ≤ (most : Int) := by omega
          have hq := HQ.out
          rw [pas_over (by omega)] at hq
          have HQ2 := Lib.hid hq
          clear hq hy hdrop
          go_wp2_with fail
          go_ret
          exact ⟨by rw [← HQ2.out]; rfl, HH.out⟩
      · obtain rfl : i = l.length := by omega
        have hq := HQ.out
        rw [List.drop_length] at hq
        conv at hq => lhs; unfold pas
        have HQ2 := Lib.hid hq
        clear hq
        go_wp2_with fail
        go_ret
        exact ⟨by rw [← HQ2.out]; rfl, HH.out⟩
end Go.Proofs.YtpoepignpdfleaaGreatDoor.Sh
/- DERIVED. The reference's Names, in full. By an AI agent. -/
namespace Go.Proofs.YtpoepignpdfleaaGreatDoor.Sh
open Go Go.ChangeShapes Go.WideShapes Go.ChangeAt Go.RowKit Lx Args Pa
set_option linter.unusedVariables false
set_option linter.unusedSimpArgs false
set_option maxRecDepth 100000 in
set_option maxHeartbeats 2000000 in
theorem rnamesB (A B : Option Addr) (c d : Nat) (ps qs : List Bs) (w : World) (hA : Lies w A (ps.map strV)) (hB : Lies w B (qs.map strV)) (hl : ps.length ≤ maxLen) (hl' : qs.length ≤ maxLen) :
    Calls Tryz.prog 12 #[.slice A ps.length c, .slice B qs.length d] w fun e w' => e = .returned (.bool (ps == qs)) ∧ Below w.heap.size w w' := by
  have hlm : ps.length ≤ 9223372036854775807 := hl
  by_cases hne : ps.length = qs.length
  · have HA := Lib.hid hA; have HB := Lib.hid hB; have HE := Lib.hid hne
    obtain ⟨res, hres⟩ : ∃ res : Bool, (ps == qs) = res := ⟨_, rfl⟩
    rw [← hne, hres]
    have HR := Lib.hid hres
    clear hA hB hne hres hl'
    go_enter Tryz.func12, Tryz.ntmps12
    go_wp2_with fail
    go_loopw [5] (fun vi wr => ∃ i : Nat, i ≤ ps.length ∧ vi = .int .i64 (i : Int) ∧ Hid (Below w.heap.size w wr) ∧ Hid (∀ j, j < i → ps[j]? = qs[j]?)) (fun vi _ => ps.length - (intOf vi).toNat)
    case atStart => exact ⟨0, by omega, rfl, Lib.hid (Below.refl _ _), Lib.hid fun j hj => absurd hj (by omega)⟩
    case round =>
      obtain ⟨i, hi, rfl, HH, HQ⟩ := hrel
      by_cases hlt : i < ps.length
      · have hlt2 : i < qs.length := by rw [← HE.out]; exact hlt
        obtain ⟨p, hp⟩ : ∃ p, ps[i]? = some p := ⟨_, List.getElem?_eq_getElem hlt⟩
        obtain ⟨q, hq⟩ : ∃ q, qs[i]? = some q := ⟨_, List.getElem?_eq_getElem hlt2⟩
        have f1 : (ps.map strV)[i]? = some (.string ⟨p.toArray⟩) := by rw [List.getElem?_map, hp]; rfl
        have f2 : (qs.map strV)[i]? = some (.string ⟨q.toArray⟩) := by rw [List.getElem?_map, hq]; rfl
        obtain ⟨b, o, rfl, _, hc1⟩ := (HA.out.below HH.out).at_ f1
        obtain ⟨b', o', rfl, _, hc2⟩ := (HB.out.below HH.out).at_ f2
        have e1 := hc1 _ _ f1
        have e2 := hc2 _ _ f2
        by_cases hpq : p = q
        · subst hpq
          have HN := Lib.hid (show ∀ j, j < i + 1 → ps[j]? = qs[j]? from fun j hj => by
            by_cases h : j < i
            · exact HQ.out j h
            · obtain rfl : j = i := by omega
              rw [hp, hq])
          clear hc1 hc2 f1 f2 hp hq hlt2
          go_wp2_with fail
          go_quiet (fail)
          go_wp2_with fail
          go_roundw
          case rel => exact ⟨i + 1, by omega, by go_num, Lib.hid (below_drewN HH.out nq), HN⟩
          case measure => simp [intOf]; omega
        · have hb : (p == q) = false := by simpa using hpq
          have hr : res = false := by
            rw [← HR.out]
            simp only [beq_eq_false_iff_ne, ne_eq]
            intro h
            subst h
            rw [hp] at hq
            exact hpq (Option.some.inj hq)
          have HRR := Lib.hid hr
          clear hc1 hc2 f1 f2 hp hq hlt2 hpq hr
          go_wp2_with fail
          go_quiet (fail)
          go_wp2_with fail
          go_ret
          exact ⟨by rw [HRR.out]; rfl, below_drewN HH.out nq⟩
      · have hr : res = true := by
          rw [← HR.out]
          simp only [beq_iff_eq]
          refine List.ext_getElem? fun j => ?_
          by_cases hj : j < ps.length
          · exact HQ.out j (by omega)
          · rw [List.getElem?_eq_none (by omega), List.getElem?_eq_none (by have := HE.out; omega)]
        have HRR := Lib.hid hr
        clear hr
        go_wp2_with fail
        go_ret
        exact ⟨by rw [HRR.out]; rfl, HH.out⟩
  · have hr : (ps == qs) = false := by
      simp only [beq_eq_false_iff_ne, ne_eq]
      intro h
      exact hne (by rw [h])
    have hi : ((ps.length : Int) != (qs.length : Int)) = true := by simp; omega
    have hi2 : ((ps.length : Int) == (qs.length : Int)) = false := by simp; omega
    rw [hr]
    clear hr hA hB
    go_enter Tryz.func12, Tryz.ntmps12
    go_wp2_with fail
    go_ret
    exact ⟨rfl, Below.refl _ _⟩
end Go.Proofs.YtpoepignpdfleaaGreatDoor.Sh
