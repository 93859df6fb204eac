/- DERIVED. NmLt, NmOu in one text. By an AI agent. -/
import Derived.Test.YtpoepignpdfleaaGreatDoorZ12
/- DERIVED. The checker's let. By an AI agent. -/
namespace Go.Proofs.YtpoepignpdfleaaGreatDoor.Nm
open Go Go.ChangeShapes Go.WideShapes Go.ChangeAt Go.RowKit Lx Args Pa Sh
set_option linter.unusedVariables false
set_option linter.unusedSimpArgs false
theorem tsIc_len {q : Prop} {w : World} : ∀ {l : List Tz} {css : List (List Value)}, TsIc q w l css → css.length = l.length ∧ css.flatten.length = l.length * 6
  | [], _, h => by unfold TsIc at h; subst h; exact ⟨rfl, rfl⟩
  | x :: l, _, h => by
    unfold TsIc at h
    obtain ⟨c, r, rfl, h2, h3⟩ := h
    have h4 := tsIc_len h3
    have h5 : c.length = 6 := by obtain ⟨_, _, _, _, _, _, _, _, _, _, rfl⟩ := tIz_cells h2; rfl
    simp only [List.length_cons, List.flatten_cons, List.length_append]
    omega
theorem tsIc_take {q : Prop} {w : World} : ∀ (i : Nat) {l : List Tz} {css : List (List Value)}, TsIc q w l css → TsIc q w (l.take i) (css.take i) ∧ TsIc q w (l.drop i) (css.drop i) ∧ css.flatten.drop (i * 6) = (css.drop i).flatten ∧ ∀ (j : Nat) (u : Value), (css.take i).flatten[j]? = some u → css.flatten[j]? = some u
  | 0, l, css, h => ⟨by simp [TsIc], by simpa using h, by simp, fun j u h => by simp at h⟩
  | i + 1, [], _, h => by
    unfold TsIc at h
    subst h
    exact ⟨by simp [TsIc], by simp [TsIc], by simp, fun j u h => by simp at h⟩
  | i + 1, x :: l, _, h => by
    unfold TsIc at h
    obtain ⟨c, r, rfl, h2, h3⟩ := h
    obtain ⟨h4, h5, h6, h7⟩ := tsIc_take i h3
    have h8 : c.length = 6 := by obtain ⟨_, _, _, _, _, _, _, _, _, _, rfl⟩ := tIz_cells h2; rfl
    refine ⟨?_, by simpa using h5, ?_, fun j u hj => ?_⟩
    · rw [List.take_succ_cons, List.take_succ_cons]
      unfold TsIc
      exact ⟨c, _, rfl, h2, h4⟩
    · rw [List.flatten_cons, List.drop_succ_cons, ← h6, show (i + 1) * 6 = c.length + i * 6 by omega, ← List.drop_drop, List.drop_append_of_le_length (Nat.le_refl _), List.drop_length, List.nil_append]
    · rw [List.take_succ_cons, List.flatten_cons] at hj
      rw [List.flatten_cons]
      by_cases hjl : j < c.length
      · rw [List.getElem?_append_left hjl] at hj ⊢
        exact hj
      · rw [List.getElem?_append_right (by omega)] at hj ⊢
        exact h7 _ _ hj
theorem lies_take {w : World} {A : Option Addr} {xs ys : List Value} (h : Lies w A xs) (hy : ∀ (j : Nat) (u : Value), ys[j]? = some u → xs[j]? = some u) : Lies w A ys := fun j u hj => h j u (hy j u hj)
/-- The two parts of a cut. -/
theorem cut_parts {w0 w : World} {A : Option Addr} {l : List Tz} {css : List (List Value)} {k : Nat} {e : Ending} {w' : World} (h : CutP w A l.length k e w') (hL : Lies w0 A css.flatten) (hS : TsIz w0 l css) :
    ∃ A1 c1 A2 c2 css1 css2, e = .returned (.tuple #[.slice A1 (l.take k).length c1, .slice A2 (l.drop k).length c2]) ∧ Lies w0 A1 css1.flatten ∧ TsIz w0 (l.take k) css1 ∧ Lies w0 A2 css2.flatten ∧ TsIz w0 (l.drop k) css2 ∧ Below w.heap.size w w' := by
  obtain ⟨A1, c1, A2, c2, rfl, h1, h2, hb⟩ := h
  obtain ⟨h4, h5, h6, h7⟩ := tsIc_take k hS
  refine ⟨A1, c1, A2, c2, css.take k, css.drop k, by rw [List.length_take, List.length_drop], lies_take (h1 w0 _ hL) h7, h4, ?_, h5, hb⟩
  by_cases hlt : 0 < l.length - k
  · rw [← h6]; exact h2 hlt w0 _ hL
  · have : l.drop k = [] := List.drop_eq_nil_of_le (by omega)
    rw [this] at h5
    unfold TsIc at h5
    rw [h5]
    exact Lies.nil _ _
theorem lenzs_take : ∀ (i : Nat) {l : List Tz}, lenzs l → lenzs (l.take i) ∧ lenzs (l.drop i)
  | 0, l, h => ⟨by simp [lenzs], by simpa using h⟩
  | i + 1, [], h => ⟨by simp [lenzs], by simp [lenzs]⟩
  | i + 1, x :: l, h => by
    unfold lenzs at h
    have := lenzs_take i h.2
    refine ⟨?_, by simpa using this.2⟩
    rw [List.take_succ_cons]
    unfold lenzs
    exact ⟨h.1, this.1⟩
theorem isN_word {w : World} {g : Nat} {kn : Kn} (h : KnP w g kn) : IsN w 89 (.pointer (some ⟨g, 0, none⟩)) (wordB kn) :=
  ⟨fun _ _ => by kernel_rfl, fun v hv s hs => isWord v g kn (h.below hv) s hs⟩
def letB (a : Int) (s : Bs) (l : List Tz) (c : St) : Rs :=
  exR (exBs (wordB c.kn) (callB c.kn) (l.take 1)) (if isB c.kn s [0, 1, 3] = true then .bad a else if isB c.kn s [2] = true then .ok c else .ok { c with kn := c.kn.put s (2, 0), en := c.en ++ [s] })
set_option maxRecDepth 100000 in
set_option maxHeartbeats 4000000 in
theorem let_ (w0 w : World) (N : Nat → Prop) (lo g : Nat) (c : St) (m : Nat) (k a : Int) (s : Bs) (n : Nat) (A : Option Addr) (cA : Nat) (B : Option Addr) (lb cB : Nat) (l : List Tz) (css : List (List Value)) (hb : Below w0.heap.size w0 w) (hL : Lies w0 A css.flatten) (hS : TsIz w0 l css) (hlc : l.length ≤ cA ∧ cA ≤ maxLen)
    (hs : s.length ≤ maxLen) (hlz : lenzs l) (hN : ∀ b, N b → w0.heap.size ≤ b) (hc : CK N lo w g c m) (hm : m + 1 ≤ 1099511627776) :
    Calls Tryz.prog 70 #[.pointer (some ⟨g, 0, none⟩), nzA k a s n A l.length cA B lb cB] w (StatP N lo w g (letB a s l c) (m + 1)) := by
  obtain ⟨wn, hwn, hbn, hXn, hsn⟩ := a_box w (nB k a s n A l.length cA B lb cB)
  obtain ⟨⟨e0, e1, e2, e3, e4, e5⟩, z0, z1, z2, z3, z4, z5⟩ := Blk.c6 hXn
  have HCU := Lib.hid (cut_ wn A l.length cA 1 hlc.1 hlc.2 (by decide))
  have HC0 := Lib.hid (in2_start hc hbn); have HU0 := Lib.hid (Upd.of_below hbn N); have HX0 := Lib.hid hXn; have HW := Lib.hid hwn; have HB0 := Lib.hid (hb.trans (hbn.mono hb.size))
  have HL := Lib.hid hL; have HS := Lib.hid hS; have HLZ := Lib.hid hlz; have HM := Lib.hid hm; have HN := Lib.hid (in2_low (w := w) hN (Nat.le_trans hb.size hbn.size)); have HSN := Lib.hid hsn
  have hlm : l.length ≤ maxLen := Nat.le_trans hlc.1 hlc.2
  obtain ⟨res, hres⟩ : ∃ res, letB a s l c = res := ⟨_, rfl⟩
  rw [hres]
  have HRES := Lib.hid hres
  have hgl := hXn.lt
  clear hc hbn hXn hwn hb hL hS hlz hm hN hlc hres hsn
  go_enter Tryz.func70, Tryz.ntmps70
  go_wp2_with fail
  rw [HW.out]
  refine (show Calls Tryz.prog 87 #[.slice A l.length cA, .int .i64 1] wn _ from HCU.out).mono ?_
  intro e w1 hcp
  obtain ⟨A1, c1, A2, c2, css1, css2, rfl, hL1, hS1, _, _, hb1⟩ := cut_parts hcp HL.out HS.out
  have HX1 := Lib.hid (HX0.out.below hb1 HX0.out.lt); have HC1 := Lib.hid (HC0.out.below hb1); have HU1 := Lib.hid (upd_then HU0.out (Upd.of_below hb1 fun _ => False) fun _ h => h.elim); have HB1 := Lib.hid (HB0.out.trans (hb1.mono HB0.out.size))
  have hs1 := hb1.size
  have HEX := Lib.hid (exprs w0 w1 g c.kn _ _ _ A1 c1 (l.take 1) css1 HB1.out hL1 hS1 (Nat.le_trans (by rw [List.length_take]; omega) hlm) (lenzs_take 1 HLZ.out).1 HC1.out.knp (isN_word HC1.out.knp))
  clear hcp hL1 hS1 hb1 HCU e0 e1 e2 e3 e4 e5 z0 z1 z2 z3 z4 z5
  obtain ⟨⟨e0, e1, e2, e3, e4, e5⟩, z0, z1, z2, z3, z4, z5⟩ := Blk.c6 HX1.out
  unfold letB at HRES
  generalize exBs (wordB c.kn) (callB c.kn) (l.take 1) = r1 at HEX HRES
  generalize (l.take 1).length = n1 at HEX
  generalize (l.drop 1).length = n2
  go_wp2_with fail
  refine (show Calls Tryz.prog 88 #[.pointer (some ⟨g, 0, none⟩), .func (.func 89) #[.pointer (some ⟨g, 0, none⟩)] #[], .slice A1 n1 c1] w1 _ from HEX.out).mono ?_
  intro e w2 h2
  cases r1 with
  | some a1 =>
    obtain ⟨rfl, hb2⟩ := h2
    have HEND := Lib.hid (show StatP N lo w g res (m + 1) (panW a1) w2 from by rw [← HRES.out]; exact ⟨rfl, upd_then HU1.out (Upd.of_below hb2 fun _ => False) fun _ h => h.elim⟩)
    clear hb2
    go_wp2_with fail
    exact ⟨rfl, HEND.out⟩
  | none =>
  obtain ⟨rfl, hb2⟩ := h2
  have HX2 := Lib.hid (HX1.out.below hb2 HX1.out.lt); have HC2 := Lib.hid (HC1.out.below hb2); have HU2 := Lib.hid (upd_then HU1.out (Upd.of_below hb2 fun _ => False) fun _ h => h.elim); have HB2 := Lib.hid (HB1.out.trans (hb2.mono HB1.out.size))
  have hs2 := hb2.size
  have hdr : Below w2.heap.size w2 w2.drew := Below.drew (Below.refl _ _)
  obtain ⟨wd, hwd⟩ : ∃ v, w2.drew = v := ⟨_, rfl⟩
  rw [hwd] at hdr
  have HXd := Lib.hid (HX2.out.below hdr HX2.out.lt); have HCd := Lib.hid (HC2.out.below hdr); have HUd := Lib.hid (upd_then HU2.out (Upd.of_below hdr fun _ => False) fun _ h => h.elim); have HBd := Lib.hid (HB2.out.trans (hdr.mono HB2.out.size))
  have hsd := hdr.size
  have hZ0 : Below wd.heap.size wd wd := Below.refl _ _
  obtain ⟨w4, hw4, hb4, hL4⟩ := sorts_box wd [0, 1, 3]
  have HW4 := Lib.hid hw4
  have HIS := Lib.hid (is_ w4 g c.kn (HCd.out.knp.below hb4) s hs _ 3 [0, 1, 3] hL4 (by decide))
  clear hb2 hdr hw4 hL4 e0 e1 e2 e3 e4 e5 z0 z1 z2 z3 z4 z5
  go_wp2_with fail
  refine HT.wp_region (Z := fun w' => Below wd.heap.size wd w') (S := fun _ => True) (st := []) (by kernel_rfl) ?_
  rw [hwd]
  clear hwd
  refine HT.takeP (i := 0) (v := ?_) rfl (by kernel_rfl) (by kernel_rfl) (by kernel_rfl) (by kernel_rfl) (fun _ _ _ h => h) (Or.inl ⟨by rfl, ?_⟩) hZ0 (fun _ => trivial) ?_
  rotate_left
  · (intro v hSw; have hA := HXd.out.below hSw HXd.out.lt; obtain ⟨⟨e0, e1, e2, e3, e4, e5⟩, z0, z1, z2, z3, z4, z5⟩ := Blk.c6 hA; clear hSw hA; go_simp; try with_reducible rfl)
  (try simp only [Act.put, List.getElem_toArray, List.getElem_cons_succ, List.getElem_cons_zero, List.setIfInBounds_toArray, List.set_cons_zero, List.set_cons_succ])
  refine HT.takeP (i := 1) (v := ?_) rfl (by kernel_rfl) (by kernel_rfl) (by kernel_rfl) (by kernel_rfl) (fun _ _ _ h => h) (Or.inl ⟨by rfl, ?_⟩) hZ0 (fun _ => trivial) ?_
  rotate_left
  · (intro v hSw; have hA := HXd.out.below hSw HXd.out.lt; obtain ⟨⟨e0, e1, e2, e3, e4, e5⟩, z0, z1, z2, z3, z4, z5⟩ := Blk.c6 hA; clear hSw hA; go_simp; try with_reducible rfl)
  (try simp only [Act.put, List.getElem_toArray, List.getElem_cons_succ, List.getElem_cons_zero, List.setIfInBounds_toArray, List.set_cons_zero, List.set_cons_succ])
  refine HT.takeP (i := 2) (v := ?_) rfl (by kernel_rfl) (by kernel_rfl) (by kernel_rfl) (by kernel_rfl) (fun _ _ _ h => h) (Or.inl ⟨by rfl, ?_⟩) hZ0 (fun _ => trivial) ?_
  rotate_left
  · (intro v hSw; have hA := HXd.out.below hSw HXd.out.lt; obtain ⟨⟨e0, e1, e2, e3, e4, e5⟩, z0, z1, z2, z3, z4, z5⟩ := Blk.c6 hA; clear hSw hA; go_simp; try with_reducible rfl)
  (try simp only [Act.put, List.getElem_toArray, List.getElem_cons_succ, List.getElem_cons_zero, List.setIfInBounds_toArray, List.set_cons_zero, List.set_cons_succ])
  refine HT.takeP (i := 3) (v := ?_) rfl (by kernel_rfl) (by kernel_rfl) (by kernel_rfl) (by kernel_rfl) (fun _ _ _ h => h) (Or.inl ⟨by rfl, ?_⟩) hZ0 (fun _ => trivial) ?_
  rotate_left
  · (intro v hSw; have hA := HXd.out.below hSw HXd.out.lt; obtain ⟨⟨e0, e1, e2, e3, e4, e5⟩, z0, z1, z2, z3, z4, z5⟩ := Blk.c6 hA; clear hSw hA; go_simp; try with_reducible rfl)
  (try simp only [Act.put, List.getElem_toArray, List.getElem_cons_succ, List.getElem_cons_zero, List.setIfInBounds_toArray, List.set_cons_zero, List.set_cons_succ])
  refine HT.one (i := 4) (by kernel_rfl) rfl (fun K hK => ?_)
  go_simp
  rw [show wd.alloc (.cells #[.int .i64 0, .int .i64 1, .int .i64 3] 56) = w4 from HW4.out]
  (try dsimp only)
  refine hK.out _ _ hb4 trivial ?_
  clear hK K
  (try simp only [Act.put, List.getElem_toArray, List.getElem_cons_succ, List.getElem_cons_zero, List.setIfInBounds_toArray, List.set_cons_zero, List.set_cons_succ])
  refine HT.one (i := 5) (by kernel_rfl) rfl (fun K hK => ?_)
  go_simp
  refine (show Calls Tryz.prog 86 #[.pointer (some ⟨g, 0, none⟩), .string ⟨s.toArray⟩, .slice (some ⟨wd.heap.size, 0, none⟩) 3 3] w4 _ from HIS.out).mono ?_
  rintro e w5 ⟨rfl, hb5⟩
  have hz5 := hb4.trans (hb5.mono hb4.size)
  (try dsimp only)
  refine hK.out _ _ hz5 trivial ?_
  clear hK K
  (try simp only [Act.put, List.getElem_toArray, List.getElem_cons_succ, List.getElem_cons_zero, List.setIfInBounds_toArray, List.set_cons_zero, List.set_cons_succ])
  have HR := Lib.hid (refuse w5 k a s n A l.length cA B lb cB (isB c.kn s [0, 1, 3]))
  obtain ⟨q, hq⟩ : ∃ q, isB c.kn s [0, 1, 3] = q := ⟨_, rfl⟩
  rw [hq] at HR HRES ⊢
  clear HIS hq HW4
  cases q with
  | true =>
    have HQ2 := Lib.hid (show Rs.bad a = res from HRES.out)
    refine HT.one (i := 6) (by kernel_rfl) rfl (fun K hK => ?_)
    go_simp
    refine (show Calls Tryz.prog 83 #[nzA k a s n A l.length cA B lb cB, .bool true] w5 _ from HR.out).mono ?_
    rintro e w6 ⟨rfl, hb6⟩
    have HEND := Lib.hid (show StatP N lo w g res (m + 1) (panW a) w6 from by rw [← HQ2.out]; exact ⟨rfl, upd_then (upd_then HUd.out (Upd.of_below hz5 fun _ => False) fun _ h => h.elim) (Upd.of_below hb6 fun _ => False) fun _ h => h.elim⟩)
    clear hb6
    exact ⟨rfl, HEND.out⟩
  | false =>
    refine HT.one (i := 6) (by kernel_rfl) rfl (fun K hK => ?_)
    go_simp
    refine (show Calls Tryz.prog 83 #[nzA k a s n A l.length cA B lb cB, .bool false] w5 _ from HR.out).mono ?_
    rintro e w6 ⟨rfl, hb6⟩
    have hz6 := hz5.trans (hb6.mono hz5.size)
    have HX6 := Lib.hid (HXd.out.below hz6 HXd.out.lt); have HC6 := Lib.hid (HCd.out.below hz6); have HU6 := Lib.hid (upd_then HUd.out (Upd.of_below hz6 fun _ => False) fun _ h => h.elim); have HB6 := Lib.hid (HBd.out.trans (hz6.mono HBd.out.size))
    have hs6 := hz6.size
    clear hb6
    (try dsimp only)
    refine hK.out _ _ hz6 trivial ?_
    clear hK K
    (try simp only [Act.put, List.getElem_toArray, List.getElem_cons_succ, List.getElem_cons_zero, List.setIfInBounds_toArray, List.set_cons_zero, List.set_cons_succ])
    refine HT.done (by kernel_rfl) ?_
    clear hb5 hz6 HR hz5 hb4 hZ0
    obtain ⟨w7, hw7, hb7, hL7⟩ := sorts_box w6 [2]
    have HW7 := Lib.hid hw7
    have HX7 := Lib.hid (HX6.out.below hb7 HX6.out.lt); have HC7 := Lib.hid (HC6.out.below hb7); have HU7 := Lib.hid (upd_then HU6.out (Upd.of_below hb7 fun _ => False) fun _ h => h.elim); have HB7 := Lib.hid (HB6.out.trans (hb7.mono HB6.out.size))
    have hs7 := hb7.size
    have HIS := Lib.hid (is_ w7 g c.kn HC7.out.knp s hs _ 1 [2] hL7 (by decide))
    clear hw7 hb7 hL7
    obtain ⟨⟨e0, e1, e2, e3, e4, e5⟩, z0, z1, z2, z3, z4, z5⟩ := Blk.c6 HX6.out
    go_wp2_with fail
    rw [show w6.alloc (.cells #[.int .i64 2] 56) = w7 from HW7.out]
    refine (show Calls Tryz.prog 86 #[.pointer (some ⟨g, 0, none⟩), .string ⟨s.toArray⟩, .slice (some ⟨w6.heap.size, 0, none⟩) 1 1] w7 _ from HIS.out).mono ?_
    rintro e w8 ⟨rfl, hb8⟩
    have HX8 := Lib.hid (HX7.out.below hb8 HX7.out.lt); have HC8 := Lib.hid (HC7.out.below hb8); have HU8 := Lib.hid (upd_then HU7.out (Upd.of_below hb8 fun _ => False) fun _ h => h.elim); have HB8 := Lib.hid (HB7.out.trans (hb8.mono HB7.out.size))
    have hs8 := hb8.size
    clear hb8 HIS e0 e1 e2 e3 e4 e5 z0 z1 z2 z3 z4 z5
    obtain ⟨⟨e0, e1, e2, e3, e4, e5⟩, z0, z1, z2, z3, z4, z5⟩ := Blk.c6 HX8.out
    obtain ⟨q, hq⟩ : ∃ q, isB c.kn s [2] = q := ⟨_, rfl⟩
    rw [hq] at HRES ⊢
    clear hq
    cases q with
    | true =>
      have HQ2 := Lib.hid (show Rs.ok c = res from HRES.out)
      have HEND := Lib.hid (show StatP N lo w g res (m + 1) (.returned (.tuple #[])) w8 from by rw [← HQ2.out]; exact ⟨rfl, (in2_out HC8.out (by have := HSN.out; omega)).more (Nat.le_succ _), HU8.out⟩)
      go_wp2_with fail
      first | go_end0 | skip
      all_goals first | exact HEND.out | exact bodyPost_ret (results_none rfl _ _ _) rfl HEND.out
    | false =>
      have HQ2 := Lib.hid (show Rs.ok { c with kn := c.kn.put s (2, 0), en := c.en ++ [s] } = res from HRES.out)
      have HNA := Lib.hid (name_ (In2 N w wn) lo w8 g c m HC8.out HM.out s hs 2 (by decide))
      go_wp2_with fail
      refine (show Calls Tryz.prog 85 #[.pointer (some ⟨g, 0, none⟩), .string ⟨s.toArray⟩, .int .i64 2] w8 _ from HNA.out).mono ?_
      rintro e w9 ⟨rfl, hc9, hu9⟩
      have HEND := Lib.hid (show StatP N lo w g res (m + 1) (.returned (.tuple #[])) w9 from by rw [← HQ2.out]; exact ⟨rfl, in2_out (in2_new hc9 (by omega)) (by have := HSN.out; omega), in2_upd HU8.out hu9 (by have := HSN.out; omega)⟩)
      clear hc9 hu9
      go_wp2_with fail
      first | go_end0 | skip
      all_goals first | exact HEND.out | exact bodyPost_ret (results_none rfl _ _ _) rfl HEND.out
end Go.Proofs.YtpoepignpdfleaaGreatDoor.Nm
/- DERIVED. The checker's output. By an AI agent. -/
namespace Go.Proofs.YtpoepignpdfleaaGreatDoor.Nm
open Go Go.ChangeShapes Go.WideShapes Go.ChangeAt Go.RowKit Lx Args Pa Sh
set_option linter.unusedVariables false
set_option linter.unusedSimpArgs false
theorem outF_snoc (ou : List (Bs × Bool)) (s : Bs) (b : Bool) : (fun t => outF ou t || t == s) = outF (ou ++ [(s, b)]) := by
  funext t
  unfold outF
  rw [List.map_append]
  by_cases h : t = s
  · subst h; simp
  · have h' : (t == s) = false := by simpa using h
    rw [h', Bool.or_false, List.contains_eq_mem, List.contains_eq_mem]
    simp [h]
theorem own_sl {w : World} {lo : Nat} {e : TypeId} {size n : Nat} {v : Value} {xs : List Value} (h : w.ownsRow lo e size v n xs) : ∃ A c, v = .slice A n c := by
  rcases h.2 with ⟨h, h0⟩ | ⟨g, cap, cur, h, _⟩
  · exact ⟨none, 0, by rw [h, h0]⟩
  · exact ⟨_, cap, h⟩
theorem in2_ne {N : Nat → Prop} {w wn : World} {b : Nat} (h : In2 N w wn b) (hs : wn.heap.size = w.heap.size + 1) : w.heap.size ≠ b := by
  rcases h with h | h
  · have := h.2; omega
  · omega
def outB (k a : Int) (s : Bs) (l : List Tz) (c : St) : Rs :=
  exR (exBs (wordB c.kn) (callB c.kn) (l.take 1)) (if outF c.ou s = true then .bad a else .ok { c with ou := c.ou ++ [(s, decide (k = 9))] })
set_option maxRecDepth 100000 in
set_option maxHeartbeats 8000000 in
theorem output (w0 w : World) (N : Nat → Prop) (lo g : Nat) (c : St) (m : Nat) (k a : Int) (s : Bs) (n : Nat) (A : Option Addr) (cA : Nat) (B : Option Addr) (lb cB : Nat) (l : List Tz) (css : List (List Value)) (hb : Below w0.heap.size w0 w) (hL : Lies w0 A css.flatten) (hS : TsIz w0 l css) (hlc : l.length ≤ cA ∧ cA ≤ maxLen)
    (hs : s.length ≤ maxLen) (hlz : lenzs l) (hN : ∀ b, N b → w0.heap.size ≤ b) (hc : CK N lo w g c m) (hm : m + 1 ≤ 1099511627776) :
    Calls Tryz.prog 71 #[.pointer (some ⟨g, 0, none⟩), nzA k a s n A l.length cA B lb cB] w (StatP N lo w g (outB k a s l c) (m + 1)) := by
  obtain ⟨i0, hi, hz⟩ := Option.map_eq_some_iff.1 infoL
  have hz0 := congrArg (·.1) hz; have hz1 := congrArg (·.2.1) hz; have hz2 := congrArg (·.2.2) hz
  have HI := Lib.hid hi; have HZ0 := Lib.hid hz0; have HZ1 := Lib.hid hz1; have HZ2 := Lib.hid hz2
  clear hi hz hz0 hz1 hz2
  obtain ⟨wn, hwn, hbn, hXn, hsn⟩ := a_box w (nB k a s n A l.length cA B lb cB)
  obtain ⟨⟨e0, e1, e2, e3, e4, e5⟩, z0, z1, z2, z3, z4, z5⟩ := Blk.c6 hXn
  have HCU := Lib.hid (cut_ wn A l.length cA 1 hlc.1 hlc.2 (by decide))
  have HC0 := Lib.hid (in2_start hc hbn); have HU0 := Lib.hid (Upd.of_below hbn N); have HX0 := Lib.hid hXn; have HW := Lib.hid hwn; have HB0 := Lib.hid (hb.trans (hbn.mono hb.size))
  have HL := Lib.hid hL; have HS := Lib.hid hS; have HLZ := Lib.hid hlz; have HM := Lib.hid hm; have HN := Lib.hid (in2_low (w := w) hN (Nat.le_trans hb.size hbn.size)); have HSN := Lib.hid hsn
  have hlm : l.length ≤ maxLen := Nat.le_trans hlc.1 hlc.2
  obtain ⟨res, hres⟩ : ∃ res, outB k a s l c = res := ⟨_, rfl⟩
  rw [hres]
  have HRES := Lib.hid hres
  have hgl := hXn.lt
  clear hc hbn hXn hwn hb hL hS hlz hm hN hlc hres hsn
  go_enter Tryz.func71, Tryz.ntmps71
  go_wp2_with fail
  rw [HW.out]
  refine (show Calls Tryz.prog 87 #[.slice A l.length cA, .int .i64 1] wn _ from HCU.out).mono ?_
  intro e w1 hcp
  obtain ⟨A1, c1, A2, c2, css1, css2, rfl, hL1, hS1, _, _, hb1⟩ := cut_parts hcp HL.out HS.out
  have HX1 := Lib.hid (HX0.out.below hb1 HX0.out.lt); have HC1 := Lib.hid (HC0.out.below hb1); have HU1 := Lib.hid (upd_then HU0.out (Upd.of_below hb1 fun _ => False) fun _ h => h.elim); have HB1 := Lib.hid (HB0.out.trans (hb1.mono HB0.out.size))
  have hs1 := hb1.size
  have HEX := Lib.hid (exprs w0 w1 g c.kn _ _ _ A1 c1 (l.take 1) css1 HB1.out hL1 hS1 (Nat.le_trans (by rw [List.length_take]; omega) hlm) (lenzs_take 1 HLZ.out).1 HC1.out.knp (isN_word HC1.out.knp))
  clear hcp hL1 hS1 hb1 HCU e0 e1 e2 e3 e4 e5 z0 z1 z2 z3 z4 z5
  obtain ⟨⟨e0, e1, e2, e3, e4, e5⟩, z0, z1, z2, z3, z4, z5⟩ := Blk.c6 HX1.out
  unfold outB at HRES
  generalize exBs (wordB c.kn) (callB c.kn) (l.take 1) = r1 at HEX HRES
  generalize (l.take 1).length = n1 at HEX
  generalize (l.drop 1).length = n2
  go_wp2_with fail
  refine (show Calls Tryz.prog 88 #[.pointer (some ⟨g, 0, none⟩), .func (.func 89) #[.pointer (some ⟨g, 0, none⟩)] #[], .slice A1 n1 c1] w1 _ from HEX.out).mono ?_
  intro e w2 h2
  cases r1 with
  | some a1 =>
    obtain ⟨rfl, hb2⟩ := h2
    have HEND := Lib.hid (show StatP N lo w g res (m + 1) (panW a1) w2 from by rw [← HRES.out]; exact ⟨rfl, upd_then HU1.out (Upd.of_below hb2 fun _ => False) fun _ h => h.elim⟩)
    clear hb2
    go_wp2_with fail
    exact ⟨rfl, HEND.out⟩
  | none =>
  obtain ⟨rfl, hb2⟩ := h2
  have HX2 := Lib.hid (HX1.out.below hb2 HX1.out.lt); have HC2 := Lib.hid (HC1.out.below hb2); have HU2 := Lib.hid (upd_then HU1.out (Upd.of_below hb2 fun _ => False) fun _ h => h.elim); have HB2 := Lib.hid (HB1.out.trans (hb2.mono HB1.out.size))
  have hs2 := hb2.size
  have hdr : Below w2.heap.size w2 w2.drew := Below.drew (Below.refl _ _)
  obtain ⟨wd, hwd⟩ : ∃ v, w2.drew = v := ⟨_, rfl⟩
  rw [hwd] at hdr
  have HXd := Lib.hid (HX2.out.below hdr HX2.out.lt); have HUd := Lib.hid (upd_then HU2.out (Upd.of_below hdr fun _ => False) fun _ h => h.elim); have HBd := Lib.hid (HB2.out.trans (hdr.mono HB2.out.size))
  obtain ⟨⟨vs, vp, vo, ve, kb, ob, hv⟩, hbd⟩ := HC2.out.below hdr
  have HENL := Lib.hid HC2.out.enl
  have hsd := hdr.size
  have hZ0 : Upd (fun b => b = ob) wd wd := Upd.refl _ _
  have HNO := Lib.hid (in2_ne (hv.inN _ (by simp) ob rfl) HSN.out); have HGO := Lib.hid hv.ne.1.2.1
  have HAD := Lib.hid (add_ wd ob m _ hv.ms (big_lt HM.out) s hs)
  have HVd := Lib.hid hv; have HBDD := Lib.hid hbd
  obtain ⟨q, hq⟩ : ∃ q, outF c.ou s = q := ⟨_, rfl⟩
  unfold AddP at HAD
  rw [hq] at HAD HRES
  clear hb2 hdr hv hbd hq e0 e1 e2 e3 e4 e5 z0 z1 z2 z3 z4 z5
  go_wp2_with fail
  refine HT.wp_region (Z := fun w' => Upd (fun b => b = ob) wd w') (S := fun _ => True) (st := []) (by kernel_rfl) ?_
  rw [hwd]
  clear hwd
  refine HT.takeP (i := 0) (v := ?_) rfl (by kernel_rfl) (by kernel_rfl) (by kernel_rfl) (by kernel_rfl) (fun _ _ _ h => h) (Or.inl ⟨by rfl, ?_⟩) hZ0 (fun _ => trivial) ?_
  rotate_left
  · (intro v hSw; have hA := HXd.out.upd hSw HNO.out; have hG := HVd.out.blk.upd hSw HGO.out; obtain ⟨⟨e0, e1, e2, e3, e4, e5⟩, z0, z1, z2, z3, z4, z5⟩ := Blk.c6 hA; obtain ⟨⟨c0, c1, c2, c3, c4, c5⟩, y0, y1, y2, y3, y4, y5⟩ := Blk.c6 hG; clear hSw hA hG; go_simp; try with_reducible rfl)
  (try simp only [Act.put, List.getElem_toArray, List.getElem_cons_succ, List.getElem_cons_zero, List.setIfInBounds_toArray, List.set_cons_zero, List.set_cons_succ])
  refine HT.takeP (i := 1) (v := ?_) rfl (by kernel_rfl) (by kernel_rfl) (by kernel_rfl) (by kernel_rfl) (fun _ _ _ h => h) (Or.inl ⟨by rfl, ?_⟩) hZ0 (fun _ => trivial) ?_
  rotate_left
  · (intro v hSw; have hA := HXd.out.upd hSw HNO.out; have hG := HVd.out.blk.upd hSw HGO.out; obtain ⟨⟨e0, e1, e2, e3, e4, e5⟩, z0, z1, z2, z3, z4, z5⟩ := Blk.c6 hA; obtain ⟨⟨c0, c1, c2, c3, c4, c5⟩, y0, y1, y2, y3, y4, y5⟩ := Blk.c6 hG; clear hSw hA hG; go_simp; try with_reducible rfl)
  (try simp only [Act.put, List.getElem_toArray, List.getElem_cons_succ, List.getElem_cons_zero, List.setIfInBounds_toArray, List.set_cons_zero, List.set_cons_succ])
  refine HT.takeP (i := 2) (v := ?_) rfl (by kernel_rfl) (by kernel_rfl) (by kernel_rfl) (by kernel_rfl) (fun _ _ _ h => h) (Or.inl ⟨by rfl, ?_⟩) hZ0 (fun _ => trivial) ?_
  rotate_left
  · (intro v hSw; have hA := HXd.out.upd hSw HNO.out; have hG := HVd.out.blk.upd hSw HGO.out; obtain ⟨⟨e0, e1, e2, e3, e4, e5⟩, z0, z1, z2, z3, z4, z5⟩ := Blk.c6 hA; obtain ⟨⟨c0, c1, c2, c3, c4, c5⟩, y0, y1, y2, y3, y4, y5⟩ := Blk.c6 hG; clear hSw hA hG; go_simp; try with_reducible rfl)
  (try simp only [Act.put, List.getElem_toArray, List.getElem_cons_succ, List.getElem_cons_zero, List.setIfInBounds_toArray, List.set_cons_zero, List.set_cons_succ])
  refine HT.takeP (i := 3) (v := ?_) rfl (by kernel_rfl) (by kernel_rfl) (by kernel_rfl) (by kernel_rfl) (fun _ _ _ h => h) (Or.inl ⟨by rfl, ?_⟩) hZ0 (fun _ => trivial) ?_
  rotate_left
  · (intro v hSw; have hA := HXd.out.upd hSw HNO.out; have hG := HVd.out.blk.upd hSw HGO.out; obtain ⟨⟨e0, e1, e2, e3, e4, e5⟩, z0, z1, z2, z3, z4, z5⟩ := Blk.c6 hA; obtain ⟨⟨c0, c1, c2, c3, c4, c5⟩, y0, y1, y2, y3, y4, y5⟩ := Blk.c6 hG; clear hSw hA hG; go_simp; try with_reducible rfl)
  (try simp only [Act.put, List.getElem_toArray, List.getElem_cons_succ, List.getElem_cons_zero, List.setIfInBounds_toArray, List.set_cons_zero, List.set_cons_succ])
  refine HT.takeP (i := 4) (v := ?_) rfl (by kernel_rfl) (by kernel_rfl) (by kernel_rfl) (by kernel_rfl) (fun _ _ _ h => h) (Or.inl ⟨by rfl, ?_⟩) hZ0 (fun _ => trivial) ?_
  rotate_left
  · (intro v hSw; have hA := HXd.out.upd hSw HNO.out; have hG := HVd.out.blk.upd hSw HGO.out; obtain ⟨⟨e0, e1, e2, e3, e4, e5⟩, z0, z1, z2, z3, z4, z5⟩ := Blk.c6 hA; obtain ⟨⟨c0, c1, c2, c3, c4, c5⟩, y0, y1, y2, y3, y4, y5⟩ := Blk.c6 hG; clear hSw hA hG; go_simp; try with_reducible rfl)
  (try simp only [Act.put, List.getElem_toArray, List.getElem_cons_succ, List.getElem_cons_zero, List.setIfInBounds_toArray, List.set_cons_zero, List.set_cons_succ])
  refine HT.takeP (i := 5) (v := ?_) rfl (by kernel_rfl) (by kernel_rfl) (by kernel_rfl) (by kernel_rfl) (fun _ _ _ h => h) (Or.inl ⟨by rfl, ?_⟩) hZ0 (fun _ => trivial) ?_
  rotate_left
  · (intro v hSw; have hA := HXd.out.upd hSw HNO.out; have hG := HVd.out.blk.upd hSw HGO.out; obtain ⟨⟨e0, e1, e2, e3, e4, e5⟩, z0, z1, z2, z3, z4, z5⟩ := Blk.c6 hA; obtain ⟨⟨c0, c1, c2, c3, c4, c5⟩, y0, y1, y2, y3, y4, y5⟩ := Blk.c6 hG; clear hSw hA hG; go_simp; try with_reducible rfl)
  (try simp only [Act.put, List.getElem_toArray, List.getElem_cons_succ, List.getElem_cons_zero, List.setIfInBounds_toArray, List.set_cons_zero, List.set_cons_succ])
  refine HT.takeP (i := 6) (v := ?_) rfl (by kernel_rfl) (by kernel_rfl) (by kernel_rfl) (by kernel_rfl) (fun _ _ _ h => h) (Or.inl ⟨by rfl, ?_⟩) hZ0 (fun _ => trivial) ?_
  rotate_left
  · (intro v hSw; have hA := HXd.out.upd hSw HNO.out; have hG := HVd.out.blk.upd hSw HGO.out; obtain ⟨⟨e0, e1, e2, e3, e4, e5⟩, z0, z1, z2, z3, z4, z5⟩ := Blk.c6 hA; obtain ⟨⟨c0, c1, c2, c3, c4, c5⟩, y0, y1, y2, y3, y4, y5⟩ := Blk.c6 hG; clear hSw hA hG; go_simp; try with_reducible rfl)
  (try simp only [Act.put, List.getElem_toArray, List.getElem_cons_succ, List.getElem_cons_zero, List.setIfInBounds_toArray, List.set_cons_zero, List.set_cons_succ])
  refine HT.one (i := 7) (by kernel_rfl) rfl (fun K hK => ?_)
  go_simp
  refine (show Calls Tryz.prog 23 #[.map (some ob), .string ⟨s.toArray⟩] wd _ from HAD.out).mono ?_
  rintro e w5 ⟨rfl, hms5, hu5⟩
  (try dsimp only)
  refine hK.out _ _ hu5 trivial ?_
  clear hK K
  (try simp only [Act.put, List.getElem_toArray, List.getElem_cons_succ, List.getElem_cons_zero, List.setIfInBounds_toArray, List.set_cons_zero, List.set_cons_succ])
  have HMS5 := Lib.hid hms5
  clear hms5 HAD
  cases q with
  | true =>
    have HQ2 := Lib.hid (show Rs.bad a = res from HRES.out)
    have HR := Lib.hid (refuse w5 k a s n A l.length cA B lb cB true)
    refine HT.takeP (i := 8) (v := ?_) rfl (by kernel_rfl) (by kernel_rfl) (by kernel_rfl) (by kernel_rfl) (fun _ _ _ h => h) (Or.inl ⟨by rfl, ?_⟩) hu5 (fun _ => trivial) ?_
    rotate_left
    · (intro v hSw; clear hSw; go_simp; try with_reducible rfl)
    (try simp only [Act.put, List.getElem_toArray, List.getElem_cons_succ, List.getElem_cons_zero, List.setIfInBounds_toArray, List.set_cons_zero, List.set_cons_succ])
    refine HT.one (i := 9) (by kernel_rfl) rfl (fun K hK => ?_)
    go_simp
    refine (show Calls Tryz.prog 83 #[nzA k a s n A l.length cA B lb cB, .bool true] w5 _ from HR.out).mono ?_
    rintro e w6 ⟨rfl, hb6⟩
    have HEND := Lib.hid (show StatP N lo w g res (m + 1) (panW a) w6 from by
      rw [← HQ2.out]
      exact ⟨rfl, upd_then (in2_upd HUd.out (hu5.mono fun b hb => hb ▸ HVd.out.inN _ (by simp) ob rfl) (by have := HSN.out; omega)) (Upd.of_below hb6 fun _ => False) fun _ h => h.elim⟩)
    clear hb6
    exact ⟨rfl, HEND.out⟩
  | false =>
    have HR := Lib.hid (refuse w5 k a s n A l.length cA B lb cB false)
    refine HT.takeP (i := 8) (v := ?_) rfl (by kernel_rfl) (by kernel_rfl) (by kernel_rfl) (by kernel_rfl) (fun _ _ _ h => h) (Or.inl ⟨by rfl, ?_⟩) hu5 (fun _ => trivial) ?_
    rotate_left
    · (intro v hSw; clear hSw; go_simp; try with_reducible rfl)
    (try simp only [Act.put, List.getElem_toArray, List.getElem_cons_succ, List.getElem_cons_zero, List.setIfInBounds_toArray, List.set_cons_zero, List.set_cons_succ])
    refine HT.one (i := 9) (by kernel_rfl) rfl (fun K hK => ?_)
    go_simp
    refine (show Calls Tryz.prog 83 #[nzA k a s n A l.length cA B lb cB, .bool false] w5 _ from HR.out).mono ?_
    rintro e w6 ⟨rfl, hb6⟩
    have hz6 : Upd (fun b => b = ob) wd w6 := upd_then hu5 (Upd.of_below hb6 fun _ => False) fun _ h => h.elim
    (try dsimp only)
    refine hK.out _ _ hz6 trivial ?_
    clear hK K
    (try simp only [Act.put, List.getElem_toArray, List.getElem_cons_succ, List.getElem_cons_zero, List.setIfInBounds_toArray, List.set_cons_zero, List.set_cons_succ])
    refine HT.done (by kernel_rfl) ?_
    have hdr : Below w6.heap.size w6 w6.drew := Below.drew (Below.refl _ _)
    obtain ⟨wz, hwd⟩ : ∃ v, w6.drew = v := ⟨_, rfl⟩
    rw [hwd] at hdr
    have hu : Upd (fun b => b = ob) wd wz := upd_then hz6 (Upd.of_below hdr fun _ => False) fun _ h => h.elim
    have hbz : Below w5.heap.size w5 wz := hb6.trans (hdr.mono hb6.size)
    have HVz := Lib.hid (HVd.out.ob' hu (HMS5.out.upd (Upd.of_below hbz fun _ => False) id) (Nat.le_succ m))
    have HXz := Lib.hid (HXd.out.upd hu HNO.out)
    have HUz := Lib.hid (in2_upd HUd.out (hu.mono fun b hb => hb ▸ HVd.out.inN _ (by simp) ob rfl) (show w.heap.size ≤ wn.heap.size by have := HSN.out; omega))
    have hsz := hu.size
    have HQ2 := Lib.hid (show Rs.ok { c with ou := c.ou ++ [(s, decide (k = 9))] } = res from HRES.out)
    have HNV := Lib.hid (show ¬ (vo.ownBlock = some w.heap.size ∨ w.heap.size = g) from fun h => by
      rcases h with h | h
      · exact in2_ne (HVd.out.inN _ (by simp) _ h) HSN.out rfl
      · exact in2_ne (HVd.out.inN _ (by simp) g rfl) HSN.out h)
    have HGV := Lib.hid HVd.out.ne.1.2.2.2.2.1
    clear hb6 hz6 hu hdr hbz HR hu5 hZ0 HRES HMS5 HX2 HC2 HU2 HB2 HX1 HC1 HU1 HB1 HX0 HC0 HU0 HB0
    have hZ0 : Upd (fun b => vo.ownBlock = some b ∨ b = g) wz wz := Upd.refl _ _
    have hS0 : Upd (fun b => vo.ownBlock = some b) wz wz := Upd.refl _ _
    obtain ⟨w4, hw4⟩ : ∃ v, wz.alloc (.cells #[.string ⟨s.toArray⟩, .bool false, .bool (k == 9)] 44) = v := ⟨_, rfl⟩
    have hb4 : Below wz.heap.size wz w4 := by rw [← hw4]; exact (Below.refl _ _).alloc (Nat.le_refl _) _
    have hL4 : Lies w4 (some ⟨wz.heap.size, 0, none⟩) (laC (s, k == 9)) := by rw [← hw4]; exact lies_full _ _ _
    have ho4 : w4.ownsRow lo 44 3 vo c.ou.length (c.ou.flatMap laC) := own_updV HVz.out.oo (Upd.of_below hb4 fun _ => False) fun _ _ h => h
    have hlo4 : lo ≤ w4.heap.size := Nat.le_trans HVz.out.lo_.2.2.2 hb4.size
    have hou : c.ou.length + 1 ≤ 1099511627776 := by have := HBDD.out; have := HM.out; omega
    have hz4 : Upd (fun b => vo.ownBlock = some b ∨ b = g) wz w4 := Upd.of_below hb4 _
    have hs4 : Upd (fun b => vo.ownBlock = some b) wz w4 := Upd.of_below hb4 _
    go_wp2_with fail
    refine HT.wp_region (Z := fun w' => Upd (fun b => vo.ownBlock = some b ∨ b = g) wz w') (S := fun w' => Upd (fun b => vo.ownBlock = some b) wz w') (st := [17]) (by kernel_rfl) ?_
    rw [hwd]
    clear hwd
    refine HT.takeP (i := 0) (v := ?_) rfl (by kernel_rfl) (by kernel_rfl) (by kernel_rfl) (by kernel_rfl) (fun _ _ _ h => h) (Or.inl ⟨by rfl, ?_⟩) hZ0 (fun _ => hS0) ?_
    rotate_left
    · (intro v hSw; clear hSw; go_simp; try with_reducible rfl)
    (try simp only [Act.put, List.getElem_toArray, List.getElem_cons_succ, List.getElem_cons_zero, List.setIfInBounds_toArray, List.set_cons_zero, List.set_cons_succ])
    refine HT.takeP (i := 1) (v := ?_) rfl (by kernel_rfl) (by kernel_rfl) (by kernel_rfl) (by kernel_rfl) (fun _ _ _ h => h) (Or.inl ⟨by rfl, ?_⟩) hZ0 (fun _ => hS0) ?_
    rotate_left
    · (intro v hSw; clear hSw; go_simp; try with_reducible rfl)
    (try simp only [Act.put, List.getElem_toArray, List.getElem_cons_succ, List.getElem_cons_zero, List.setIfInBounds_toArray, List.set_cons_zero, List.set_cons_succ])
    refine HT.takeP (i := 2) (v := ?_) rfl (by kernel_rfl) (by kernel_rfl) (by kernel_rfl) (by kernel_rfl) (fun _ _ _ h => h) (Or.inl ⟨by rfl, ?_⟩) hZ0 (fun _ => hS0) ?_
    rotate_left
    · (intro v hSw; clear hSw; go_simp; try with_reducible rfl)
    (try simp only [Act.put, List.getElem_toArray, List.getElem_cons_succ, List.getElem_cons_zero, List.setIfInBounds_toArray, List.set_cons_zero, List.set_cons_succ])
    refine HT.takeP (i := 3) (v := ?_) rfl (by kernel_rfl) (by kernel_rfl) (by kernel_rfl) (by kernel_rfl) (fun _ _ _ h => h) (Or.inl ⟨by rfl, ?_⟩) hZ0 (fun _ => hS0) ?_
    rotate_left
    · (intro v hSw; clear hSw; go_simp; try with_reducible rfl)
    (try simp only [Act.put, List.getElem_toArray, List.getElem_cons_succ, List.getElem_cons_zero, List.setIfInBounds_toArray, List.set_cons_zero, List.set_cons_succ])
    refine HT.takeP (i := 4) (v := ?_) rfl (by kernel_rfl) (by kernel_rfl) (by kernel_rfl) (by kernel_rfl) (fun _ _ _ h => h) (Or.inl ⟨by rfl, ?_⟩) hZ0 (fun _ => hS0) ?_
    rotate_left
    · (intro v hSw; clear hSw; go_simp; try with_reducible rfl)
    (try simp only [Act.put, List.getElem_toArray, List.getElem_cons_succ, List.getElem_cons_zero, List.setIfInBounds_toArray, List.set_cons_zero, List.set_cons_succ])
    refine HT.take (i := 5) (v := ?_) rfl (by kernel_rfl) (by kernel_rfl) (by kernel_rfl) (by kernel_rfl) (by kernel_rfl) (by kernel_rfl) (fun _ _ _ h => h) (Or.inl ⟨by rfl, ?_⟩) hZ0 hS0 ?_
    rotate_left
    · (intro v hSw; have hG := HVz.out.blk.upd hSw HGV.out; obtain ⟨⟨c0, c1, c2, c3, c4, c5⟩, y0, y1, y2, y3, y4, y5⟩ := Blk.c6 hG; clear hSw hG; go_simp; try with_reducible rfl)
    (try simp only [Act.put, List.getElem_toArray, List.getElem_cons_succ, List.getElem_cons_zero, List.setIfInBounds_toArray, List.set_cons_zero, List.set_cons_succ])
    refine HT.takeP (i := 6) (v := ?_) rfl (by kernel_rfl) (by kernel_rfl) (by kernel_rfl) (by kernel_rfl) (fun _ _ _ h => h) (Or.inl ⟨by rfl, ?_⟩) hZ0 (fun _ => hS0) ?_
    rotate_left
    · (intro v hSw; have hA := HXz.out.upd hSw HNV.out; obtain ⟨⟨e0, e1, e2, e3, e4, e5⟩, z0, z1, z2, z3, z4, z5⟩ := Blk.c6 hA; clear hSw hA; go_simp; try with_reducible rfl)
    (try simp only [Act.put, List.getElem_toArray, List.getElem_cons_succ, List.getElem_cons_zero, List.setIfInBounds_toArray, List.set_cons_zero, List.set_cons_succ])
    refine HT.takeP (i := 7) (v := ?_) rfl (by kernel_rfl) (by kernel_rfl) (by kernel_rfl) (by kernel_rfl) (fun _ _ _ h => h) (Or.inl ⟨by rfl, ?_⟩) hZ0 (fun _ => hS0) ?_
    rotate_left
    · (intro v hSw; have hA := HXz.out.upd hSw HNV.out; obtain ⟨⟨e0, e1, e2, e3, e4, e5⟩, z0, z1, z2, z3, z4, z5⟩ := Blk.c6 hA; clear hSw hA; go_simp; try with_reducible rfl)
    (try simp only [Act.put, List.getElem_toArray, List.getElem_cons_succ, List.getElem_cons_zero, List.setIfInBounds_toArray, List.set_cons_zero, List.set_cons_succ])
    refine HT.takeP (i := 8) (v := ?_) rfl (by kernel_rfl) (by kernel_rfl) (by kernel_rfl) (by kernel_rfl) (fun _ _ _ h => h) (Or.inl ⟨by rfl, ?_⟩) hZ0 (fun _ => hS0) ?_
    rotate_left
    · (intro v hSw; have hA := HXz.out.upd hSw HNV.out; obtain ⟨⟨e0, e1, e2, e3, e4, e5⟩, z0, z1, z2, z3, z4, z5⟩ := Blk.c6 hA; clear hSw hA; go_simp; try with_reducible rfl)
    (try simp only [Act.put, List.getElem_toArray, List.getElem_cons_succ, List.getElem_cons_zero, List.setIfInBounds_toArray, List.set_cons_zero, List.set_cons_succ])
    refine HT.takeP (i := 9) (v := ?_) rfl (by kernel_rfl) (by kernel_rfl) (by kernel_rfl) (by kernel_rfl) (fun _ _ _ h => h) (Or.inl ⟨by rfl, ?_⟩) hZ0 (fun _ => hS0) ?_
    rotate_left
    · (intro v hSw; have hA := HXz.out.upd hSw HNV.out; obtain ⟨⟨e0, e1, e2, e3, e4, e5⟩, z0, z1, z2, z3, z4, z5⟩ := Blk.c6 hA; clear hSw hA; go_simp; try with_reducible rfl)
    (try simp only [Act.put, List.getElem_toArray, List.getElem_cons_succ, List.getElem_cons_zero, List.setIfInBounds_toArray, List.set_cons_zero, List.set_cons_succ])
    refine HT.takeP (i := 10) (v := ?_) rfl (by kernel_rfl) (by kernel_rfl) (by kernel_rfl) (by kernel_rfl) (fun _ _ _ h => h) (Or.inl ⟨by rfl, ?_⟩) hZ0 (fun _ => hS0) ?_
    rotate_left
    · (intro v hSw; have hA := HXz.out.upd hSw HNV.out; obtain ⟨⟨e0, e1, e2, e3, e4, e5⟩, z0, z1, z2, z3, z4, z5⟩ := Blk.c6 hA; clear hSw hA; go_simp; try with_reducible rfl)
    (try simp only [Act.put, List.getElem_toArray, List.getElem_cons_succ, List.getElem_cons_zero, List.setIfInBounds_toArray, List.set_cons_zero, List.set_cons_succ])
    refine HT.takeP (i := 11) (v := ?_) rfl (by kernel_rfl) (by kernel_rfl) (by kernel_rfl) (by kernel_rfl) (fun _ _ _ h => h) (Or.inl ⟨by rfl, ?_⟩) hZ0 (fun _ => hS0) ?_
    rotate_left
    · (intro v hSw; have hA := HXz.out.upd hSw HNV.out; obtain ⟨⟨e0, e1, e2, e3, e4, e5⟩, z0, z1, z2, z3, z4, z5⟩ := Blk.c6 hA; clear hSw hA; go_simp; try with_reducible rfl)
    (try simp only [Act.put, List.getElem_toArray, List.getElem_cons_succ, List.getElem_cons_zero, List.setIfInBounds_toArray, List.set_cons_zero, List.set_cons_succ])
    refine HT.one (i := 12) (by kernel_rfl) rfl (fun K hK => ?_)
    go_simp
    (try rw [hw4])
    (try dsimp only)
    refine hK.out _ _ hz4 hs4 ?_
    clear hK K
    (try simp only [Act.put, List.getElem_toArray, List.getElem_cons_succ, List.getElem_cons_zero, List.setIfInBounds_toArray, List.set_cons_zero, List.set_cons_succ])
    refine HT.one (i := 13) (by kernel_rfl) rfl (fun K hK => ?_)
    refine step_any rfl _ _ 27 rfl lo 44 i0 (.agg #[.string ⟨#[]⟩, .bool false, .bool false]) 3 24 Tryz.underlying27 HI.out HZ0.out HZ1.out HZ2.out rfl (by decide) vo c.ou.length _ rfl ho4 (some ⟨wz.heap.size, 0, none⟩) 1 1 (laC (s, k == 9)) rfl rfl hL4 (by simp [laC, Value.oneCell']) (by unfold maxLen; omega) (by omega) hlo4 ?_
    intro v' w8 hown hgrow hat
    obtain ⟨vA, vc, rfl⟩ := own_sl hown
    have hs8 : Upd (fun b => vo.ownBlock = some b) wz w8 := hs4.grown hgrow fun b hb _ => hb
    have hz8 : Upd (fun b => vo.ownBlock = some b ∨ b = g) wz w8 := hs8.mono fun b hb => .inl hb
    (try dsimp only)
    refine hK.out _ _ hz8 hs8 ?_
    clear hK K
    (try simp only [Act.put, List.getElem_toArray, List.getElem_cons_succ, List.getElem_cons_zero, List.setIfInBounds_toArray, List.set_cons_zero, List.set_cons_succ])
    refine HT.takeP (i := 14) (v := ?_) rfl (by kernel_rfl) (by kernel_rfl) (by kernel_rfl) (by kernel_rfl) (fun _ _ _ h => h) (Or.inl ⟨by rfl, ?_⟩) hz8 (fun _ => hs8) ?_
    rotate_left
    · (intro v hSw; clear hSw; go_simp; try with_reducible rfl)
    (try simp only [Act.put, List.getElem_toArray, List.getElem_cons_succ, List.getElem_cons_zero, List.setIfInBounds_toArray, List.set_cons_zero, List.set_cons_succ])
    refine HT.takeP (i := 15) (v := ?_) rfl (by kernel_rfl) (by kernel_rfl) (by kernel_rfl) (by kernel_rfl) (fun _ _ _ h => h) (Or.inl ⟨by rfl, ?_⟩) hz8 (fun _ => hs8) ?_
    rotate_left
    · (intro v hSw; clear hSw; go_simp; try with_reducible rfl)
    (try simp only [Act.put, List.getElem_toArray, List.getElem_cons_succ, List.getElem_cons_zero, List.setIfInBounds_toArray, List.set_cons_zero, List.set_cons_succ])
    refine HT.takeP (i := 16) (v := ?_) rfl (by kernel_rfl) (by kernel_rfl) (by kernel_rfl) (by kernel_rfl) (fun _ _ _ h => h) (Or.inl ⟨by rfl, ?_⟩) hz8 (fun _ => hs8) ?_
    rotate_left
    · (intro v hSw; clear hSw; go_simp; try with_reducible rfl)
    (try simp only [Act.put, List.getElem_toArray, List.getElem_cons_succ, List.getElem_cons_zero, List.setIfInBounds_toArray, List.set_cons_zero, List.set_cons_succ])
    have hG8 := HVz.out.blk.upd hs8 HGV.out
    obtain ⟨⟨c0, c1, c2, c3, c4, c5⟩, y0, y1, y2, y3, y4, y5⟩ := Blk.c6 hG8
    have hg8 := hG8.lt
    refine HT.oneS (i := 17) (by kernel_rfl) (by kernel_rfl) rfl (fun K hK => ?_)
    go_simp
    refine hK.out _ _ (hz8.setCell (p := ⟨g, 2, none⟩) (fun _ => .inr rfl) _) ?_
    clear hK K
    (try simp only [Act.put, List.getElem_toArray, List.getElem_cons_succ, List.getElem_cons_zero, List.setIfInBounds_toArray, List.set_cons_zero, List.set_cons_succ])
    refine HT.done (by kernel_rfl) ?_
    have hown' : w8.ownsRow lo 44 3 (.slice vA (c.ou.length + 1) vc) (c.ou ++ [(s, decide (k = 9))]).length ((c.ou ++ [(s, decide (k = 9))]).flatMap laC) := by
      rw [List.length_append, List.flatMap_append]; exact hown
    have hat' : (Value.slice vA (c.ou.length + 1) vc).ownBlock = vo.ownBlock ∨ ∃ n, wz.heap.size ≤ n ∧ (Value.slice vA (c.ou.length + 1) vc).ownBlock = some n := hat.imp id fun h => ⟨_, hb4.size, h⟩
    have hfin := HVz.out.vo' hs8 hown' hat'
    rw [outF_snoc c.ou s (decide (k = 9))] at hfin
    have HEND := Lib.hid (show StatP N lo w g res (m + 1) (.returned (.tuple #[])) (w8.setCell ⟨g, 2, none⟩ (.slice vA (c.ou.length + 1) vc)) from by
      rw [← HQ2.out]
      have hb := HBDD.out
      refine ⟨rfl, ⟨⟨vs, vp, _, ve, kb, ob, hfin.mono fun b hb _ _ => ?_⟩, ⟨Nat.le_succ_of_le hb.1, Nat.le_succ_of_le hb.2.1, by show (c.ou ++ [_]).length ≤ m + 1; simp; omega, Nat.le_succ_of_le hb.2.2.2⟩, HENL.out⟩, ?_⟩
      · rcases hb with (h | h) | h
        · exact .inl h.1
        · exact .inr (by have := HSN.out; omega)
        · exact .inr (by have := HUz.out.size; omega)
      · refine in2_upd HUz.out ((hs8.mono (Y := In2 N w wn) fun b hb => HVz.out.inN _ (by simp) b hb).setCell (p := ⟨g, 2, none⟩) (fun _ => HVz.out.inN _ (by simp) g rfl) _) (by have := HSN.out; omega))
    clear hown hown' hat hat' hfin hgrow hs8 hz8 hG8 hz4 hs4 hw4 hb4 hL4 ho4 c0 c1 c2 c3 c4 c5 y0 y1 y2 y3 y4 y5 hg8 hZ0 hS0
    go_wp2_with fail
    first | go_end0 | skip
    all_goals first | exact HEND.out | exact bodyPost_ret (results_none rfl _ _ _) rfl HEND.out
end Go.Proofs.YtpoepignpdfleaaGreatDoor.Nm
