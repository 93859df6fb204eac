/- DERIVED. TxPt in one text. By an AI agent. -/
import Derived.Test.YtnngnfajmncjpaaGreatDoorZ30
import Derived.Test.YtnngnfajmncjpaaGreatDoorZ32
/- DERIVED. text.Program of code's lines. By an AI agent. -/
namespace Go.Proofs.YtnngnfajmncjpaaGreatDoor.Tx
open Go Go.ChangeShapes Go.WideShapes Go.ChangeAt Go.RowKit Go.Lib Go.Sort Go.Shelf Args
set_option linter.unusedVariables false
set_option linter.unusedSimpArgs false
attribute [local go_sem] Oper.semAt_some
/-- What Program hands back. -/
def PgP (zs : List Nat) (w : World) (e : Ending) (w' : World) : Prop := ∃ A c, e = .returned (.tuple #[.slice A zs.length c, .int .i64 0, .int .i64 0]) ∧ Lies w' A (u16s zs) ∧ Below w.heap.size w w'
/-- A round with a line, whole. -/
theorem pg_round {zs : List Nat} {w W w3 : World} {pre : List Spl.Bs} {z : Nat} (x : Spl.Bs) (h : PgI zs w pre W) (hb3 : Below W.heap.size W w3) (htk : zs.take (pre.length + 1) = zs.take pre.length ++ [z]) (hyl : (zs.take pre.length).length = pre.length) :
    ∃ g c, w3.cell? ⟨w.heap.size + 4, 0, none⟩ = some (.slice (some ⟨g, 0, none⟩) pre.length c) ∧ w.heap.size + 9 ≤ w3.heap.size ∧
      (w3.alloc (.cells #[.int .u16 (z : Int)] 34)).ownsRow (w.heap.size + 3) 34 1 (.slice (some ⟨g, 0, none⟩) pre.length c) pre.length (u16s (zs.take pre.length)) ∧
      ∀ g' c' w8, w8.ownsRow (w.heap.size + 3) 34 1 (.slice (some ⟨g', 0, none⟩) (pre.length + 1) c') (pre.length + 1) (u16s (zs.take pre.length) ++ [.int .u16 (z : Int)]) → (w3.alloc (.cells #[.int .u16 (z : Int)] 34)).grownBy w8 (some g) → (some g' = some g ∨ g' = (w3.alloc (.cells #[.int .u16 (z : Int)] 34)).heap.size) →
        w8.frozen? ⟨w.heap.size + 4, 0, none⟩ = false ∧ w8.cell? ⟨w.heap.size + 4, 0, none⟩ = some (.slice (some ⟨g, 0, none⟩) pre.length c) ∧
        (w8.setCell ⟨w.heap.size + 4, 0, none⟩ (.slice (some ⟨g', 0, none⟩) (pre.length + 1) c')).cell? ⟨w.heap.size + 5, 0, none⟩ = some (.int .i64 (pre.length : Int)) ∧
        (w8.setCell ⟨w.heap.size + 4, 0, none⟩ (.slice (some ⟨g', 0, none⟩) (pre.length + 1) c')).frozen? ⟨w.heap.size + 5, 0, none⟩ = false ∧
        ∀ Wf, Wf = (w8.setCell ⟨w.heap.size + 4, 0, none⟩ (.slice (some ⟨g', 0, none⟩) (pre.length + 1) c')).setCell ⟨w.heap.size + 5, 0, none⟩ (.int .i64 ((pre.length : Int) + 1)) → KeepsOthers W Wf ∧ Spl.KB (w.heap.size + 6) W Wf ∧ PgI zs w (pre ++ [x]) Wf := by
  obtain ⟨h0, h1, h2, h3, h4⟩ := h
  have hs3 := hb3.size
  obtain ⟨g, c, c4, c5, c9⟩ := cd_below h2 hb3
  have r3 := r3_below h1 hb3
  have n3 := h3.below hb3 h3.lt
  have b3 := h4.trans (hb3.mono h4.size)
  generalize hys : zs.take pre.length = ys at *
  have hf := fun g' c' w8 k2 k3 k4 => cd_app (n := w.heap.size) (ys := ys) (z := z) (W := w3) (w8 := w8) (g := g) (c := c) (g' := g') (c' := c') (k := pre.length) (o := .cells #[.int .u16 (z : Int)] 34) (by omega) r3 c4 c5 c9 n3 k2 k3 k4 (.int .i64 ((pre.length : Int) + 1))
  rw [hyl] at c4 c5 hf
  refine ⟨g, c, by simpa using c4.cell 0, by omega, c5.alloc _, fun g' c' w8 k2 k3 k4 => ?_⟩
  obtain ⟨⟨q1, q2⟩, q3⟩ := hf g' c' w8 k2 k3 k4
  refine ⟨q1.frozen 0, by simpa using q1.cell 0, by simpa using q2.cell 0, q2.frozen 0, fun Wf hWf => ?_⟩
  obtain ⟨e1, e2, e3, e4, e5, e6, e7⟩ := q3 Wf hWf
  refine ⟨(keeps_below hb3 rfl).trans e1, Spl.kb_t (kb_below hb3 (by omega)) e2, by omega, e4, ?_, ?_, e7 w b3⟩
  · rw [List.length_append, List.length_singleton, htk]; exact e5
  · rw [List.length_append, List.length_singleton]; exact e6
set_option maxRecDepth 100000 in
set_option maxHeartbeats 8000000 in
theorem progC (zs : List Nat) (hzs : ∀ z ∈ zs, z < 65536) (hlen : zs.length ≤ 1000) (w : World) (hL : Lz w) : Calls Tryz.prog 5 #[.string ⟨(listL zs).toArray⟩] w (PgP zs w) := by
  have hll := listL_len zs hzs
  have i1 : decide ((1048576 : Int) < (((listL zs).length : Nat) : Int)) = false := by simp; omega
  obtain ⟨i0, hi, hz0, hz1, hz2⟩ := info_parts infoU
  have HIF := Lib.hid hi; have HZ0 := Lib.hid hz0; have HZ1 := Lib.hid hz1; have HZ2 := Lib.hid hz2
  have HQ := Lib.hid (Spl.seqC (listL zs) 10 (pgW w))
  have HZ := Lib.hid hzs; have HLN := Lib.hid hlen; have HLZ := Lib.hid hL; have HLL := Lib.hid hll
  have HSL := Lib.hid (split_list zs hzs)
  clear hi hz0 hz1 hz2 hzs hlen hL hll
  refine (callsIn_wide (n := 3)).1 ?_
  refine callsIn_of_wp_marks Tryz.func5 rfl trivial ?_ rfl
  simp only [Tryz.ntmps5, List.size_toArray, List.length_cons, List.length_nil, Nat.reduceAdd, Nat.reduceSub, Array.replicate_succ, Array.replicate_zero, List.push_toArray, List.append_toArray, List.nil_append, List.cons_append]
  gi_wp2_with (refine ⟨trivial, ?_⟩; gi_at_call 13; refine (callsIn_wide.2 HQ.out).mono ?_; rintro e w' ⟨rfl, hw2⟩; rw [hw2]; clear hw2)
  obtain ⟨q1, q2, q3, q4, q5⟩ := Spl.sqW_facts (listL zs) 10 (pgW w)
  obtain ⟨p1, p2, p3, p4, p5⟩ := pgW_facts w
  rw [p1] at q1 q2 q3 q4 q5 ⊢
  have hI0 : PgI zs w [] (Spl.sqW (listL zs) 10 (pgW w)) := ⟨by omega, r3_below p2 (by rw [p1]; exact q2), cd_below p3 (by rw [p1]; exact q2), p4.below q2 (by omega), p5.trans (q2.mono (by omega))⟩
  generalize Spl.sqW (listL zs) 10 (pgW w) = w2 at *
  clear HQ p2 p3 p4 p5 p1
  simp only [Nat.add_assoc, Nat.reduceAdd] at *
  refine Rg.range rfl (by decide) (gf := 36) (lb := Spl.sqC (w.heap.size + 6)) rfl trivial (enters_of Tryz.func36 (by kernel_rfl) rfl)
    (Spl.split_it 2 (by decide) (w.heap.size + 6) 10 (listL zs) (by have := HLL.out; have := HLN.out; omega) w2 (by omega) q3 q4 q5) (by omega) Spl.kb_t (Spl.kb_b (by omega)) (Below.refl _ _) (fun _ => rfl)
    (PgI zs w) (fun _ _ => False) (pgI_own zs w (by omega)) (fun _ _ _ _ h _ _ => h) hI0
    (fun x => { tmps := #[.string ⟨(listL zs).toArray⟩, undef, .pointer (some ⟨w.heap.size, 0, none⟩), .pointer (some ⟨w.heap.size + 1, 0, none⟩), .pointer (some ⟨w.heap.size + 2, 0, none⟩), .pointer (some ⟨w.heap.size + 4, 0, none⟩), .pointer (some ⟨w.heap.size + 5, 0, none⟩), .string ⟨x.toArray⟩, undef, undef, .string ⟨(listL zs).toArray⟩,
        .int .i64 (((listL zs).length : Nat) : Int), .bool false, .slice (some ⟨w.heap.size + 3, 0, none⟩) 0 0, .string ⟨(listL zs).toArray⟩, .func (.func 36) #[] (Spl.sqC (w.heap.size + 6)), .string ⟨x.toArray⟩, undef, undef, undef, undef, undef, undef, undef, undef, undef, undef, undef, undef, undef, undef, undef, undef, undef], defers := [] }) ?assign ?body ?done ?stop
  case assign =>
    intro l x W K hK
    gi_wp2
    exact hK
  case body =>
    rintro l pre x W ⟨h0, h1, h2, h3, h4⟩ hpre
    rw [HSL.out] at hpre
    have d0 := h3.cell 0; have e0 := h3.frozen 0
    simp only [List.getElem?_toArray, List.getElem?_cons_zero, List.getElem?_cons_succ] at d0
    rcases pre_at hpre with ⟨hk, rfl⟩ | ⟨hk, rfl⟩
    · have hz := HZ.out _ (List.getElem_mem hk)
      have htk : zs.take (pre.length + 1) = zs.take pre.length ++ [zs[pre.length]'hk] := List.take_succ_eq_append_getElem hk
      have hyl : (zs.take pre.length).length = pre.length := by rw [List.length_take]; omega
      generalize zs[pre.length]'hk = z at *
      have hh := fun n => CallsIn.inRound l (callsIn_wide.2 (halfC z hz W (HLZ.out.below h4)) : CallsIn Fence.wide n _ _ _ _ _)
      obtain ⟨_, hne⟩ := line_nl z hz
      generalize lineL z = X at *
      have i2 : X.isEmpty = false := by simpa using hne
      have HH := Lib.hid hh; have HTK := Lib.hid htk; have HYL := Lib.hid hyl
      clear hh hpre htk
      have HPI := Lib.hid (show PgI zs w pre W from ⟨h0, h1, h2, h3, h4⟩)
      have hk300 : pre.length ≤ 1000 := by have := HLN.out; omega
      clear h0 h1 h2 h3 h4 d0 e0
      gi_wp2_with (first
        | (refine ⟨trivial, ?_⟩; gi_at_call 14; refine (HH.out _).mono ?_; rintro e w3 ⟨rfl, hb3⟩; obtain ⟨g, c, l3, hs3, ho3, hf3⟩ := pg_round X HPI.out hb3 HTK.out HYL.out; have HOA := Lib.hid ho3; have HF := Lib.hid hf3; clear hb3 ho3 hf3;
            have HNW := Lib.hid (show ∀ (j : Nat) u, [Value.int .u16 (z : Int)][j]? = some u → (w3.alloc (.cells #[.int .u16 (z : Int)] 34)).cell? ((⟨w3.heap.size, 0, none⟩ : Addr).add j) = some u from fun j u hj => by
              rw [Args.add_plain, Nat.zero_add, World.cell?_alloc_at _ _ _ _ rfl]
              simpa using hj))
        | (gi_at_builtin; refine wpListIn_where _ rfl (.tmp 27) (.tmp 29) 22 rfl (w.heap.size + 3) 34 i0 (.int .u16 0) 1 2 Tryz.underlying22 HIF.out HZ0.out HZ1.out HZ2.out rfl (by decide) _ pre.length _ rfl HOA.out ⟨w3.heap.size, 0, none⟩ 1 1 [.int .u16 (z : Int)] rfl rfl HNW.out (by simp [Value.oneCell']) (by unfold maxLen; omega) (by omega) (by simp; omega) (by decide) ?_; intro g' c' w8 k2 k3 k4; obtain ⟨f8, l8, l9, f9, hfin⟩ := HF.out g' c' w8 k2 k3 k4; have HFIN := Lib.hid hfin; clear k2 k3 k4 hfin))
      exact HFIN.out _ rfl
    · have HPI := Lib.hid (show PgI zs w (pre ++ [[]]) (W.setCell ⟨w.heap.size + 5, 0, none⟩ (.int .i64 ((pre.length : Int) + 1))) from by
        have et : zs.take (pre ++ [([] : Spl.Bs)]).length = zs.take pre.length := by rw [List.length_append, List.length_singleton, hk, List.take_length, List.take_of_length_le (by omega)]
        have hg := grownBy_setCell' W (w.heap.size + 5) (.int .i64 ((pre.length : Int) + 1))
        have hs := hg.size
        obtain ⟨g, c, c4, c5, c9⟩ := h2
        obtain ⟨n4, _, _⟩ := row_ne (by decide) c5 h3
        refine ⟨by omega, r3_grown h1 hg (fun r e => by cases e; omega), ?_, ?_, h4.setCell (by show w.heap.size ≤ w.heap.size + 5; omega) _⟩
        · rw [et]
          exact ⟨g, c, c4.far (p := ⟨w.heap.size + 5, 0, none⟩) (by show w.heap.size + 4 ≠ w.heap.size + 5; omega) _, c5.kept hg (.inr (by simp only [Value.ownBlock]; exact fun e => n4 (by cases e; rfl))), c9⟩
        · rw [List.length_append, List.length_singleton]
          exact h3.set 0 _)
      have HKB := Lib.hid (show Spl.KB (w.heap.size + 6) W (W.setCell ⟨w.heap.size + 5, 0, none⟩ (.int .i64 ((pre.length : Int) + 1))) from fun k k1 k2 => (grownBy_setCell' W (w.heap.size + 5) (.int .i64 ((pre.length : Int) + 1))).block k (by omega) (fun e => by cases e; omega))
      have hk1000 : pre.length ≤ 1000 := by have := HLN.out; omega
      clear h0 h1 h2 h3 h4 hpre hk
      gi_wp2
      exact ⟨KeepsOthers.setCell _ _ _, HKB.out, HPI.out⟩
  case done =>
    rintro D xs W hD rfl ⟨h1, h2, ⟨g, c, h3, h4, _⟩, h5, h6⟩ hK
    have hlx : (Spl.splitB 10 (listL zs)).length = zs.length + 1 := by rw [HSL.out]; simp
    have htk : zs.take (Spl.splitB 10 (listL zs)).length = zs := List.take_of_length_le (by omega)
    rw [htk] at h3 h4
    have l0 := h3.cell 0
    have r0 := h2.1.cell 0; have r1 := h2.2.1.cell 0; have r2 := h2.2.2.cell 0
    have f0 := h2.1.frozen 0; have f1 := h2.2.1.frozen 0; have f2 := h2.2.2.frozen 0
    simp only [List.getElem?_toArray, List.getElem?_cons_zero, List.getElem?_cons_succ] at l0 r0 r1 r2
    have hk2 := (put3_keeps W w.heap.size (.slice (some ⟨g, 0, none⟩) zs.length c) (.int .i64 0) (.int .i64 0)).same D _ hK rfl
    have hr9 := r3_put h2 (.slice (some ⟨g, 0, none⟩) zs.length c) (.int .i64 0) (.int .i64 0)
    have hr9 : R3 w.heap.size (.slice (some ⟨g, 0, none⟩) zs.length c) (.int .i64 0) (.int .i64 0) ((put3 W w.heap.size (.slice (some ⟨g, 0, none⟩) zs.length c) (.int .i64 0) (.int .i64 0)).putObj D (.deferred none)) :=
      ⟨Spl.blk_putObj hr9.1 _ hk2 rfl, Spl.blk_putObj hr9.2.1 _ hk2 rfl, Spl.blk_putObj hr9.2.2 _ hk2 rfl⟩
    have hb9 := Spl.below_putObj (put3_below h6 (Nat.le_refl _) (.slice (some ⟨g, 0, none⟩) zs.length c) (.int .i64 0) (.int .i64 0)) (.deferred none) (by omega : w.heap.size ≤ D) hk2
    have ho9 : Lies ((put3 W w.heap.size (.slice (some ⟨g, 0, none⟩) zs.length c) (.int .i64 0) (.int .i64 0)).putObj D (.deferred none)) (some ⟨g, 0, none⟩) (u16s zs) := by
      obtain ⟨n1, n2, n3⟩ := row_ne (by decide) h4 h3
      have k0 := h4.kept (grownBy_setCell' W w.heap.size (.slice (some ⟨g, 0, none⟩) zs.length c)) (.inr (by simp only [Value.ownBlock]; intro e; cases e; omega))
      have k1 := k0.kept (grownBy_setCell' _ (w.heap.size + 1) (.int .i64 0)) (.inr (by simp only [Value.ownBlock]; intro e; cases e; omega))
      have k2 := k1.kept (grownBy_setCell' _ (w.heap.size + 2) (.int .i64 0)) (.inr (by simp only [Value.ownBlock]; intro e; cases e; omega))
      have nD : D ≠ g := fun e => by
        rcases k2.2 with ⟨e0, _⟩ | ⟨g', cap, cur, e1, _, hh, _⟩
        · cases e0
        · cases e1
          subst e
          have := hk2.symm.trans hh
          cases this
      have k3 := k2.kept (grownBy_putObj' _ D (.deferred none)) (.inr (by simp only [Value.ownBlock]; intro e; cases e; exact nD rfl))
      exact lies_own k3
    have HR9 := Lib.hid hr9; have HK := Lib.hid hk2
    have HP : Hid (PgP zs w (.returned (.tuple #[.slice (some ⟨g, 0, none⟩) zs.length c, .int .i64 0, .int .i64 0])) ((put3 W w.heap.size (.slice (some ⟨g, 0, none⟩) zs.length c) (.int .i64 0) (.int .i64 0)).putObj D (.deferred none))) :=
      Lib.hid ⟨some ⟨g, 0, none⟩, c, rfl, ho9, hb9⟩
    clear h1 h2 h3 h4 h5 h6 hr9 hb9 ho9 hK hk2
    gi_wp2
    refine ⟨by simp, .inl ⟨_, _, rfl, run_takeDeferred HK.out, ?_⟩⟩
    exact ⟨_, r3_res HR9.out _ rfl rfl rfl, HP.out⟩
  case stop =>
    rintro D pre W hD _ hf
    exact hf.elim
end Go.Proofs.YtnngnfajmncjpaaGreatDoor.Tx
