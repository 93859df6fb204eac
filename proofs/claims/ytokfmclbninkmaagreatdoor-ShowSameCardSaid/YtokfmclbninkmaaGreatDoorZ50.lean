/- DERIVED. ShEq, ShLv, ShWe in one text. By an AI agent. -/
import Derived.Test.YtokfmclbninkmaaGreatDoorZ49
/- DERIVED. The two texts agree; how long texts are. Of no program. By an AI agent. -/
namespace Go.Proofs.YtokfmclbninkmaaGreatDoor.Sw
open Go Lx Pa Sh Wr Rt
set_option linter.unusedVariables false
theorem nrun_le (base : Nat) : ∀ (l : List UInt8) (n m : Nat), n ≤ 4294967296 → Num.nrun base l n = some m → m ≤ 4294967296
  | [], n, m, h, e => by
    unfold Num.nrun at e
    cases e
    exact h
  | c :: l, n, m, h, e => by
    unfold Num.nrun at e
    split at e
    · exact nrun_le base l _ m (Nat.min_le_right ..) e
    · cases e
theorem numV_lt (b : Bs) : (numV b).1 < 4294967296 := by
  unfold numV Num.numR
  split
  · decide
  · split
    · decide
    · next h =>
      have := nrun_le _ _ _ _ (by decide) h
      split
      · decide
      · simp only; omega
theorem tq (l : List Tk) : TQ (fun _ => True) l := fun _ _ _ => trivial
theorem made_E' {s : Bs} {z : Tz} (h : IsT ExprR s z) : shE z := by
  obtain ⟨_, x, t, r, hR, _, hs⟩ := h
  obtain ⟨f, hf⟩ := (show Rd numV (.lev 0) 0 (wordsL s).l (.ok [x] (t :: r)) from hR).at_
  have := pF_made (num := numV) (Q := fun _ => True) numV_lt f (.lev 0) 0 (wordsL s).l trivial (tq _)
  rw [hf] at this
  obtain ⟨⟨y, hy, hg⟩, _⟩ := this
  cases hy
  exact made_E hg hs
theorem made_P' {s : Bs} {z : Tz} (h : IsT ProgR s z) : shP z := by
  obtain ⟨_, x, t, r, hR, _, hs⟩ := h
  obtain ⟨zs, a, hx, hR, _⟩ := hR
  cases hx
  obtain ⟨f, hf⟩ := hR.at_
  have := pF_made (num := numV) (Q := fun _ => True) numV_lt f (.stmts []) 0 (wordsL s).l trivial (tq _)
  rw [hf] at this
  obtain ⟨⟨ys, hy, hg⟩, _⟩ := this
  rw [List.nil_append] at hy
  subst hy
  obtain ⟨k', a', s', n', ps', l'⟩ := z
  unfold embz sameB at hs
  simp only [Bool.and_eq_true, decide_eq_true_eq] at hs
  obtain ⟨⟨⟨⟨hk, _⟩, _⟩, _⟩, hl⟩ := hs
  unfold shP
  exact ⟨hk.symm, made_Ts hg hl⟩
theorem isT_len {R : List Tk → Out → Prop} {s : Bs} {z : Tz} (h : IsT R s z) : s.length ≤ 20000 := by
  by_cases hs : s.length ≤ 20000
  · exact hs
  · have := h.1
    rw [words_long s (by omega)] at this
    exact absurd this (by show ¬ (150 : Nat) = 0; decide)
/-- The program and the reference tell the same. -/
theorem agree {R : List Tk → Out → Prop} {P : Prop} {t : Bs} {z : Tz} (hm : ∀ s, IsT R s z → P) (hls : P → ls z = true) {e e' : Ending} (h : ∃ r, (P → Cut [] t r) ∧ TdV R r z e) (h' : ToldV R t z e') (hsm : pa 300 3000 z ≤ 3000) : e = e' := by
  obtain ⟨r, hc, ht⟩ := h
  have hcd := (small_iff z 300 3000).1 hsm
  have heq : IsT R r z → r = t := fun h => by
    have h1 := hc (hm r h)
    have h2 := isT_len h
    by_cases h3 : t.length ≤ 20000
    · simpa using h1.1 (by simpa using h3)
    · have := h1.2 (by simp; omega)
      omega
  have heq2 : IsT R t z → r = t := fun h => by
    have h1 := hc (hm t h)
    simpa using h1.1 (by simpa using isT_len h)
  rcases h' with ⟨hT, rfl⟩ | ⟨hT, rfl⟩
  · have e1 := heq2 hT
    subst e1
    rcases ht with ⟨_, ⟨_, h⟩ | ⟨h, _⟩⟩ | ⟨h, _⟩
    · exact h
    · exact absurd hT h
    · exact absurd ⟨hcd.1, hcd.2, hls (hm r hT)⟩ h
  · rcases ht with ⟨_, ⟨h2, _⟩ | ⟨_, h⟩⟩ | ⟨_, h⟩
    · exact absurd (heq h2 ▸ h2) hT
    · exact h
    · exact h
mutual
theorem okz_of : ∀ {z : Tz}, nz z → bz z ≤ 1048576 → okz z
  | .mk k a s n ps l, h, hb => by
    unfold nz at h
    unfold bz at hb
    unfold okz
    exact ⟨by omega, fun p hp => by have := bps_mem hp; omega, h.1, okzs_of h.2 (by omega)⟩
theorem okzs_of : ∀ {l : List Tz}, nzs l → bzs l ≤ 1048576 → okzs l
  | [], _, _ => trivial
  | x :: l, h, hb => by
    unfold nzs at h
    unfold bzs at hb
    unfold okzs
    exact ⟨okz_of h.1 (by omega), okzs_of h.2 (by omega)⟩
theorem bps_mem : ∀ {ps : List Bs} {p : Bs}, p ∈ ps → p.length ≤ bps ps
  | q :: ps, p, h => by
    unfold bps
    rcases List.mem_cons.1 h with h | h
    · subst h; omega
    · have := bps_mem h; omega
end
mutual
/-- How long an operand's text is. -/
theorem len_op : ∀ (z : Tz) (op : Bool), nz z → bz z ≤ 1048576 → (opT dec op z).length + 1048578 ≤ 2097200 * cntz z
  | .mk k a s n ps l, op, hn, hb => by
    have hb2 := hb
    unfold nz at hn
    unfold bz at hb2
    have h2 : ∀ bt op f, bt.length ≤ 1048578 → (liT dec bt op f l).length ≤ 2097200 * cnts l := fun bt op f hbt => len_li l bt op f hn.2 (by omega) hbt
    have hd := dec_len n hn.1
    have hex : (exT dec (.mk k a s n ps l)).length ≤ 1048578 + 2097200 * cnts l := by
      rw [exT_mk]
      split
      · omega
      · split
        · omega
        · split
          · have := h2 [] true true (by simp)
            rw [List.length_append]; omega
          · split
            · have := h2 [44, 32] false true (by simp)
              simp only [List.length_append, List.length_cons, List.length_nil]; omega
            · have := h2 ([32] ++ s ++ [32]) true true (by simp; omega)
              omega
    unfold cntz
    rw [opT_eq]
    split
    · simp only [List.length_append, List.length_cons, List.length_nil]; omega
    · omega
theorem len_li : ∀ (l : List Tz) (bt : Bs) (op f : Bool), nzs l → bzs l ≤ 1048576 → bt.length ≤ 1048578 → (liT dec bt op f l).length ≤ 2097200 * cnts l
  | [], bt, op, f, _, _, _ => by rw [liT_nil]; simp
  | x :: l, bt, op, f, hn, hb, hbt => by
    unfold nzs at hn
    unfold bzs at hb
    have h1 := len_op x op hn.1 (by omega)
    have h2 := len_li l bt op false hn.2 (by omega) hbt
    rw [liT_cons]
    unfold cnts
    have h3 : (if f = true then [] else bt).length ≤ 1048578 := by split <;> simp [hbt]
    simp only [List.length_append]
    omega
end
theorem len_ex (z : Tz) (hn : nz z) (hb : bz z ≤ 1048576) : (exT dec z).length + 1048578 ≤ 2097200 * cntz z := by
  rw [exop]; exact len_op z false hn hb
theorem len_na : ∀ (ps : List Bs) (f : Bool), (naT f ps).length ≤ 3 * bps ps
  | [], f => by show 0 ≤ _; omega
  | p :: ps, f => by
    have := len_na ps false
    rw [naT_cons]
    unfold bps
    have h3 : (if f = true then ([] : Bs) else [44, 32]).length ≤ 2 := by split <;> simp
    simp only [List.length_append]
    omega
mutual
theorem len_st : ∀ (z : Tz), nz z → bz z ≤ 1048576 → (stT dec z).length + 8 ≤ 8388608 * cntz z
  | .mk k a s n ps l, hn, hb => by
    have hb2 := hb
    unfold nz at hn
    unfold bz at hb2
    have h1 := len_na ps true
    have h2 := len_li l [] false true hn.2 (by omega) (by simp)
    have h3 := len_fo l 2 hn.2 (by omega)
    rw [stT_mk]
    unfold cntz
    have hx : ∀ (p q : Bs), p.length ≤ 1048600 + 3 * bps ps → (p ++ [32, 61, 32] ++ liT dec [] false true l ++ [59]).length + 8 ≤ 8388608 * (1 + cnts l) := fun p q hp => by
      simp only [List.length_append, List.length_cons, List.length_nil]
      omega
    split
    · simp only [List.length_append, List.length_cons, List.length_nil]; omega
    · split
      · simp only [List.length_append, List.length_cons, List.length_nil]; omega
      · split
        · split
          · simp only [List.length_cons, List.length_nil]; omega
          · simp only [List.length_append, List.length_cons, List.length_nil]; omega
        · refine hx _ [] ?_
          clear hx h2 h3
          by_cases h12 : k = 12
          · subst h12
            simp only [if_true, show ¬ ((12 : Int) = 9) by decide, show ¬ ((12 : Int) = 8) by decide, if_false, List.length_append, List.length_cons, List.length_nil]
            omega
          · by_cases h9 : k = 9
            · subst h9
              simp only [if_true, show ¬ ((9 : Int) = 12) by decide, show ¬ ((9 : Int) = 8) by decide, if_false, List.length_append, List.length_cons, List.length_nil]
              omega
            · by_cases h8 : k = 8
              · subst h8
                simp only [if_true, show ¬ ((8 : Int) = 12) by decide, show ¬ ((8 : Int) = 9) by decide, if_false, List.length_append, List.length_cons, List.length_nil]
                omega
              · simp only [if_neg h12, if_neg h9, if_neg h8]
                omega
theorem len_fo : ∀ (l : List Tz) (i : Nat), nzs l → bzs l ≤ 1048576 → (foT dec i l).length ≤ 8388608 * cnts l
  | [], i, _, _ => by rw [foT_nil]; simp
  | x :: l, 0, hn, hb => by
    unfold nzs at hn
    unfold bzs at hb
    have h1 := len_st x hn.1 (by omega)
    have h2 := len_fo l 0 hn.2 (by omega)
    rw [foT_0]
    unfold cnts
    simp only [List.length_append, List.length_cons, List.length_nil]
    omega
  | x :: l, 1, hn, hb => by
    unfold nzs at hn
    unfold bzs at hb
    have h1 := len_ex x hn.1 (by omega)
    have h2 := len_fo l 0 hn.2 (by omega)
    rw [foT_1]
    unfold cnts
    simp only [List.length_append, List.length_cons, List.length_nil]
    omega
  | x :: l, i + 2, hn, hb => by
    unfold nzs at hn
    unfold bzs at hb
    have h1 := len_ex x hn.1 (by omega)
    have h2 := len_fo l 1 hn.2 (by omega)
    rw [show foT dec (i + 2) (x :: l) = exT dec x ++ [32, 46, 46, 32] ++ foT dec 1 l by conv => lhs; unfold foT]
    unfold cnts
    simp only [List.length_append, List.length_cons, List.length_nil]
    omega
end
theorem len_prs : ∀ (l : List Tz), nzs l → bzs l ≤ 1048576 → (prTs dec l).length ≤ 8388608 * cnts l
  | [], _, _ => by show 0 ≤ _; omega
  | x :: l, hn, hb => by
    unfold nzs at hn
    unfold bzs at hb
    have h1 := len_st x hn.1 (by omega)
    have h2 := len_prs l hn.2 (by omega)
    rw [prTs_cons]
    unfold cnts
    simp only [List.length_append, List.length_cons, List.length_nil]
    omega
theorem len_pr (z : Tz) (hn : nz z) (hb : bz z ≤ 1048576) : (prT dec z).length ≤ 8388608 * cntz z := by
  obtain ⟨k, a, s, n, ps, l⟩ := z
  unfold nz at hn
  unfold bz at hb
  have := len_prs l hn.2 (by omega)
  show (prTs dec l).length ≤ _
  unfold cntz
  omega
end Go.Proofs.YtokfmclbninkmaaGreatDoor.Sw
/- DERIVED. The laws' lives and Small; the walk of ShowExprs. By an AI agent. -/
namespace Go.Proofs.YtokfmclbninkmaaGreatDoor.Sw
open Go Go.ChangeShapes Go.WideShapes Go.ChangeAt Go.RowKit Lx Args Pa Sh Wr Rt Pq
set_option linter.unusedVariables false
set_option linter.unusedSimpArgs false
def trL : Tr := .mk 3 0 [94] 0 [] [.mk 1 0 [97] 0 [] [], .mk 3 2 [38] 0 [] [.mk 1 2 [98] 0 [] [], .mk 2 4 [126] 0 [] [.mk 1 5 [99] 0 [] []]]]
def tkL : List Tk := [⟨1, [97], 0⟩, ⟨4, [94], 1⟩, ⟨1, [98], 2⟩, ⟨4, [38], 3⟩, ⟨4, [126], 4⟩, ⟨1, [99], 5⟩, ⟨0, [], 6⟩]
theorem live_words : wordsL [97, 94, 98, 38, 126, 99] = ⟨tkL, 0, 0⟩ := by rfl
theorem live_tree : pF numV 40 (.lev 0) 0 tkL = some (.ok [trL] [⟨0, [], 6⟩]) := by rfl
theorem live_rd {o : Out} (h : ExprR tkL o) : o = .ok [trL] [⟨0, [], 6⟩] := h.one ⟨40, fun f hf => pF_mono numV 40 f hf _ _ _ _ live_tree⟩
def txL : Bs := [97, 32, 94, 32, 40, 98, 32, 38, 32, 40, 126, 99, 41, 41]
def trM : Tr := .mk 3 0 [94] 0 [] [.mk 1 0 [97] 0 [] [], .mk 3 4 [38] 0 [] [.mk 1 5 [98] 0 [] [], .mk 2 9 [126] 0 [] [.mk 1 11 [99] 0 [] []]]]
def tkM : List Tk := [⟨1, [97], 0⟩, ⟨4, [94], 2⟩, ⟨4, [40], 4⟩, ⟨1, [98], 5⟩, ⟨4, [38], 7⟩, ⟨4, [40], 9⟩, ⟨4, [126], 10⟩, ⟨1, [99], 11⟩, ⟨4, [41], 12⟩, ⟨4, [41], 13⟩, ⟨0, [], 14⟩]
theorem tell_words : wordsL txL = ⟨tkM, 0, 0⟩ := by rfl
theorem tell_tree : pF numV 60 (.lev 0) 0 tkM = some (.ok [trM] [⟨0, [], 14⟩]) := by rfl
theorem live_text : exT dec (embz trL) = txL := by rfl
theorem live_sh : shE (embz trL) := by
  simp [trL, embz, embs, shE, shEs]
theorem live_ok : okz (embz trL) := by
  simp [trL, embz, embs, okz, okzs]
theorem live_sml : Sml (embz trL) := by
  refine ⟨by decide, by decide, by decide⟩
theorem live_isT : IsT ExprR txL (embz trL) := by
  refine ⟨by rw [tell_words], trM, ⟨0, [], 14⟩, [], ?_, rfl, by decide⟩
  rw [tell_words]
  exact ⟨60, fun f hf => pF_mono numV 60 f hf _ _ _ _ tell_tree⟩
theorem live_told {r : Bs} {e : Ending} (hc : shE (embz trL) → Cut [] (exT dec (embz trL)) r) (ht : TdV ExprR r (embz trL) e) : e = .returned (.tuple #[.string ⟨txL.toArray⟩, .int .i64 0]) := by
  have h1 := hc live_sh
  rw [live_text] at h1
  have h2 : r = txL := by have := h1.1 (by decide); simpa using this
  subst h2
  rcases ht with ⟨_, ⟨_, h⟩ | ⟨h, _⟩⟩ | ⟨h, _⟩
  · exact h
  · exact absurd live_isT h
  · exact absurd live_sml h
set_option maxRecDepth 100000 in
set_option maxHeartbeats 4000000 in
theorem lives (w : World) (hTB : TabP w) : Calls Tryz.prog 7 #[] w fun e w' => e = .returned (.bool true) ∧ Below w.heap.size w w' := by
  have HE := Lib.hid (r_expr ⟨#[97, 94, 98, 38, 126, 99]⟩ w); have HTB := Lib.hid hTB
  clear hTB
  go_enter Tryz.func7, Tryz.ntmps7
  go_wp2_with fail
  refine HE.out.mono ?_
  have hw : wordsL (⟨#[97, 94, 98, 38, 126, 99]⟩ : ByteArray).data.toList = ⟨tkL, 0, 0⟩ := live_words
  rintro e w1 (⟨k, a, sx, n, A, la, cA, B, lb, cB, x, t, r, rfl, h1, h2, h3, hT, hb⟩ | ⟨a, er, rfl, hbad, hb⟩)
  · rw [hw] at h2
    have hx := live_rd h2
    simp only [Out.ok.injEq, List.cons.injEq, and_true] at hx
    obtain ⟨rfl, _⟩ := hx
    obtain ⟨w2, hw2, hb2, hX2⟩ := a_box w1 (nB (k : Int) (a : Int) sx n A la cA B lb cB)
    have hT2 := TIz.below hb2 (tIz_of hT)
    have hb12 := hb.trans (hb2.mono hb.size)
    have HS := Lib.hid (pExpr (embz trL) live_ok w2 (tab_below HTB.out hb12) (k : Int) (a : Int) sx n A la cA B lb cB hT2)
    have HTZ := Lib.hid hT2; have HW2 := Lib.hid hw2; have HX2 := Lib.hid hX2; have HB2 := Lib.hid hb12
    clear hw h1 h2 h3 hT hb hw2 hb2 hX2 hT2 hb12
    go_wp2_with fail
    rw [HW2.out]
    refine (show Calls Tryz.prog 10 #[nzA (k : Int) (a : Int) sx n A la cA B lb cB] w2 _ from HS.out).mono ?_
    rintro e w3 ⟨⟨r, hc, ht⟩, hb3⟩
    obtain rfl := live_told hc ht
    have hx3 := HX2.out.below hb3 HX2.out.lt
    obtain ⟨⟨e0, e1, e2, e3, e4, e5⟩, z0, z1, z2, z3, z4, z5⟩ := Blk.c6 hx3
    have hxl := hx3.lt
    have HM := Lib.hid (psame (SizeOf.sizeOf (embz trL) + 1) (embz trL) (embz trL) (Nat.lt_succ_self _) w3 (k : Int) (a : Int) sx n A la cA B lb cB (k : Int) (a : Int) sx n A la cA B lb cB (TIz.below hb3 HTZ.out) (TIz.below hb3 HTZ.out))
    have HB3 := Lib.hid (HB2.out.trans (hb3.mono HB2.out.size))
    have hsame : sameB (embz trL) (embz trL) = true := same_refl _
    rw [hsame] at HM
    clear hc ht hb3 hx3 hsame HS
    go_wp2_with fail
    refine (show Calls Tryz.prog 12 #[nzA (k : Int) (a : Int) sx n A la cA B lb cB, nzA (k : Int) (a : Int) sx n A la cA B lb cB] w3 _ from HM.out).mono ?_
    rintro e w4 ⟨rfl, hb4⟩
    have HB4 := Lib.hid (HB3.out.trans (hb4.mono HB3.out.size))
    clear hb4
    go_wp2_with fail
    go_ret
    exact ⟨rfl, HB4.out⟩
  · exfalso
    rw [hw] at hbad
    rcases hbad with ⟨h, _⟩ | ⟨_, h | ⟨xs, t, r, h, hk, _⟩⟩
    · exact h rfl
    · have := live_rd h; cases this
    · have := live_rd h
      simp only [Out.ok.injEq, List.cons.injEq] at this
      obtain ⟨_, rfl, _⟩ := this
      exact hk rfl
set_option maxRecDepth 100000 in
theorem small (z : Tz) (w : World) (k a : Int) (s : Bs) (n : Nat) (A : Option Addr) (la cA : Nat) (B : Option Addr) (lb cB : Nat) (hT : TIz w z (nzC k a s n A la cA B lb cB)) :
    Calls Tryz.prog 6 #[nzA k a s n A la cA B lb cB] w fun e w' => e = .returned (.bool (decide (pa 300 3000 z ≤ 3000))) ∧ Below w.heap.size w w' := by
  obtain ⟨w1, hw1, hb1, hX1⟩ := a_box w (nB k a s n A la cA B lb cB)
  have HP := Lib.hid (rparts (SizeOf.sizeOf z + 1) z (Nat.lt_succ_self _) w1 k a s n A la cA B lb cB 300 3000 (by decide) (by decide) (TIz.below hb1 hT))
  have hpl := pa_le z 300 3000
  have HW := Lib.hid hw1; have HB1 := Lib.hid hb1
  generalize pa 300 3000 z = np at *
  clear hT hw1 hb1 hX1
  obtain ⟨bn, hbn⟩ : ∃ bn : Bool, decide (np ≤ 3000) = bn := ⟨_, rfl⟩
  have hbi : decide ((np : Int) ≤ 3000) = bn := by rw [← hbn]; congr 1; simp only [eq_iff_iff]; omega
  rw [hbn]
  clear hpl
  go_enter Tryz.func6, Tryz.ntmps6
  go_wp2_with fail
  rw [HW.out]
  refine (show Calls Tryz.prog 15 #[nzA k a s n A la cA B lb cB, .int .i64 300, .int .i64 3000] w1 _ from HP.out).mono ?_
  rintro e w2 ⟨rfl, hb2⟩
  have HB2 := Lib.hid (HB1.out.trans (hb2.mono HB1.out.size))
  clear hb2
  go_wp2_with fail
  go_ret
  exact ⟨by first | rfl | (simp [hbn]; done) | (simp [hbi]; done), HB2.out⟩
end Go.Proofs.YtokfmclbninkmaaGreatDoor.Sw
/- DERIVED. The law ShowExprs. By an AI agent. -/
namespace Go.Proofs.YtokfmclbninkmaaGreatDoor.Sw
open Go Go.ChangeShapes Go.WideShapes Go.ChangeAt Go.RowKit Lx Args Pa Sh Wr Rt Pq
set_option linter.unusedVariables false
set_option linter.unusedSimpArgs false
theorem told_res {R : List Tk → Out → Prop} {s : Bs} {z : Tz} {e : Ending} (h : ToldV R s z e) : ∃ u v, e = .returned (.tuple #[.string u, .int .i64 v]) := by
  rcases h with ⟨_, h⟩ | ⟨_, h⟩
  · exact ⟨_, _, h⟩
  · exact ⟨_, _, h⟩
set_option maxRecDepth 100000 in
set_option maxHeartbeats 2000000 in
theorem walkE (w : World) (z : Tz) (cs : List Value) (hT : TIc True w z cs) (hn : nz z) (hb : bz z ≤ 1048576) (hTB : TabP w) :
    Calls Tryz.prog 4 #[.agg cs.toArray] w fun e w' => e = .returned (.bool true) ∧ Below w.heap.size w w' := by
  obtain ⟨k, a, s, n, A, la, cA, B, lb, cB, rfl⟩ := tIz_cells hT
  have hT := tIz_weak hT
  show Calls Tryz.prog 4 #[nzA k a s n A la cA B lb cB] w _
  have hok := okz_of hn hb
  have hlen : pa 300 3000 z ≤ 3000 → (exT dec z).length ≤ 1099511627776 := fun h => by
    have h1 := len_ex z hn hb
    have h2 := ((small_iff z 300 3000).1 h).1
    have h3 := Nat.mul_le_mul_left 2097200 h2
    omega
  obtain ⟨w1, hw1, hb1, hX1⟩ := a_box w (nB k a s n A la cA B lb cB)
  obtain ⟨⟨e0, e1, e2, e3, e4, e5⟩, z0, z1, z2, z3, z4, z5⟩ := Blk.c6 hX1
  have hxl := hX1.lt
  have HTZ := Lib.hid fun w2 (hb : Below w.heap.size w w2) => TIz.below hb hT
  have HSM := Lib.hid (small z w1 k a s n A la cA B lb cB (HTZ.out w1 hb1))
  have HLI := Lib.hid fun w2 (hb : Below w.heap.size w w2) => lives w2 (tab_below hTB hb)
  have HPE := Lib.hid fun w2 (hb : Below w.heap.size w w2) => pExpr z hok w2 (tab_below hTB hb) k a s n A la cA B lb cB (HTZ.out w2 hb)
  have HRE := Lib.hid fun (hp : pa 300 3000 z ≤ 3000) w2 (hb : Below w.heap.size w w2) => rExpr z hok (hlen hp) w2 k a s n A la cA B lb cB (HTZ.out w2 hb)
  have HW := Lib.hid hw1; have HB1 := Lib.hid hb1; have HX1 := Lib.hid hX1
  obtain ⟨sm, hsm⟩ : ∃ sm, decide (pa 300 3000 z ≤ 3000) = sm := ⟨_, rfl⟩
  rw [hsm] at HSM
  have HSQ := Lib.hid hsm
  clear hT hTB hok hlen hn hb hw1 hb1 hX1 hsm
  go_enter Tryz.func4, Tryz.ntmps4
  go_wp2_with fail
  rw [HW.out]
  refine (show Calls Tryz.prog 6 #[nzA k a s n A la cA B lb cB] w1 _ from HSM.out).mono ?_
  rintro e w2 ⟨rfl, hb2⟩
  have hx2 := HX1.out.below hb2 hxl
  clear e0 e1 e2 e3 e4 e5 z0 z1 z2 z3 z4 z5
  obtain ⟨⟨e0, e1, e2, e3, e4, e5⟩, z0, z1, z2, z3, z4, z5⟩ := Blk.c6 hx2
  have hxl2 := hx2.lt
  have HX2 := Lib.hid hx2; have HB2 := Lib.hid (HB1.out.trans (hb2.mono HB1.out.size))
  clear hx2 hb2 HSM
  cases sm with
  | false =>
    have HL := Lib.hid (HLI.out w2 HB2.out)
    go_wp2_with fail
    refine HL.out.mono ?_
    rintro e w3 ⟨rfl, hb3⟩
    have HB3 := Lib.hid (HB2.out.trans (hb3.mono HB2.out.size))
    clear hb3
    go_wp2_with fail
    go_ret
    exact ⟨rfl, HB3.out⟩
  | true =>
    have HSM := Lib.hid (of_decide_eq_true HSQ.out)
    have HP := Lib.hid (HPE.out w2 HB2.out)
    go_wp2_with fail
    refine (show Calls Tryz.prog 10 #[nzA k a s n A la cA B lb cB] w2 _ from HP.out).mono ?_
    rintro e w3 ⟨hTD, hb3⟩
    have hx3 := HX2.out.below hb3 hxl2
    have HB3 := Lib.hid (HB2.out.trans (hb3.mono HB2.out.size))
    have HAG := Lib.hid fun e' h => agree (fun _ h => made_E' h) (fun h => shE_ls h) hTD h HSM.out (e' := e')
    have hres : ∃ u v, e = .returned (.tuple #[.string u, .int .i64 v]) := by
      obtain ⟨r, _, ⟨_, h⟩ | ⟨_, h⟩⟩ := hTD
      · exact told_res h
      · exact ⟨_, _, h⟩
    obtain ⟨u, v, rfl⟩ := hres
    clear e0 e1 e2 e3 e4 e5 z0 z1 z2 z3 z4 z5
    obtain ⟨⟨e0, e1, e2, e3, e4, e5⟩, z0, z1, z2, z3, z4, z5⟩ := Blk.c6 hx3
    have hxl3 := hx3.lt
    have HX3 := Lib.hid hx3
    have HR := Lib.hid (HRE.out HSM.out w3 HB3.out)
    clear hTD hb3 hx3 HP
    go_wp2_with fail
    refine (show Calls Tryz.prog 11 #[nzA k a s n A la cA B lb cB] w3 _ from HR.out).mono ?_
    rintro e w4 ⟨hRT, hb4⟩
    have hee : Ending.returned (.tuple #[.string u, .int .i64 v]) = e := by
      rcases hRT with ⟨_, h⟩ | ⟨h, _⟩
      · exact HAG.out e h
      · exact absurd HSM.out h
    subst hee
    have HB4 := Lib.hid (HB3.out.trans (hb4.mono HB3.out.size))
    have HL := Lib.hid (HLI.out w4 HB4.out)
    have hs2 : (v == v) = true := beq_self_eq_true v
    clear hRT hb4 HR HAG
    go_wp2_with fail
    refine HL.out.mono ?_
    rintro e w5 ⟨rfl, hb5⟩
    have HB5 := Lib.hid (HB4.out.trans (hb5.mono HB4.out.size))
    clear hb5
    go_wp2_with fail
    go_ret
    exact ⟨rfl, HB5.out⟩
end Go.Proofs.YtokfmclbninkmaaGreatDoor.Sw
