/- DERIVED. The words of programs, plainly: a text's tokens, and that what is joined is the same tokens again. Of no program. By an AI agent. -/
namespace Go.Proofs.YtiagagljghoacaaDoor.Lx
abbrev Bs := List UInt8
def letB (c : UInt8) : Bool := (65 ≤ c.toNat && c.toNat ≤ 90) || (97 ≤ c.toNat && c.toNat ≤ 122)
def numB (c : UInt8) : Bool := 48 ≤ c.toNat && c.toNat ≤ 57
/-- What may go on in a word, or in a number. -/
def onB (word : Bool) (c : UInt8) : Bool := letB c || numB c || (word && c == 95)
def runL (w : Bool) : Bs → Nat
  | [] => 0
  | c :: r => if onB w c then runL w r + 1 else 0
/-- How many bytes are passed over: in a comment, or not. -/
def skipL : Bool → Bs → Nat
  | _, [] => 0
  | true, c :: r => if c == 10 then skipL false r + 1 else skipL true r + 1
  | false, c :: r => if c == 32 || c == 9 || c == 10 then skipL false r + 1 else if c == 47 && r.head? == some 47 then skipL true r + 1 else 0
/-- The words of the language. -/
def words7 : List Bs := [[115, 101, 99, 114, 101, 116], [112, 117, 98, 108, 105, 99], [111, 117, 116], [115, 104, 111, 119], [102, 111, 114], [105, 110], [102, 110]]
def wordB (s : Bs) : Bool := words7.contains s
def signs2 : List Bs := [[60, 60], [62, 62], [46, 46]]
def signs1 : Bs := [61, 59, 44, 40, 41, 123, 125, 43, 45, 38, 124, 94, 126]
/-- A token's kind and length; none: nothing begins so. -/
def tokC (c : UInt8) (r : Bs) : Option (Nat × Nat) :=
  if letB c = true then
    if wordB (c :: r.take (runL true r)) = true then some (3, runL true r + 1) else if 32 < runL true r + 1 then none else some (1, runL true r + 1)
  else if numB c = true then some (2, runL false r + 1)
  else if (c :: r).take 3 = [60, 60, 60] then some (4, 3)
  else if (c :: r).take 2 ∈ signs2 then some (4, 2)
  else if c ∈ signs1 then some (4, 1)
  else none
structure Tk where
  k : Nat
  s : Bs
  at_ : Nat
  deriving DecidableEq
/-- Tokens, a place, an error. -/
structure Wd where
  l : List Tk
  at_ : Nat
  er : Nat
def Wd.cons (t : Tk) (w : Wd) : Wd := if w.er = 0 then ⟨t :: w.l, w.at_, w.er⟩ else w
/-- From a token's place on: bs is what is left from place i on, n tokens are there. -/
def goL : Nat → Bs → Nat → Nat → Wd
  | 0, _, _, _ => ⟨[], 0, 0⟩
  | f + 1, bs, i, n =>
    match bs with
    | [] => if n = 4000 then ⟨[], i, 150⟩ else ⟨[⟨0, [], i⟩], 0, 0⟩
    | c :: r =>
      match tokC c r with
      | none => ⟨[], i, 100⟩
      | some (k, m) => if n = 4000 then ⟨[], i, 150⟩ else
        Wd.cons ⟨k, (c :: r).take m, i⟩ (goL f (((c :: r).drop m).drop (skipL false ((c :: r).drop m))) (i + m + skipL false ((c :: r).drop m)) (n + 1))
def wordsL (s : Bs) : Wd := if 20000 < s.length then ⟨[], 0, 150⟩ else goL (s.length + 1) (s.drop (skipL false s)) (skipL false s) 0
/-- Texts with a blank between any two. -/
def joinL : List Bs → Bs
  | [] => []
  | [t] => t
  | t :: u :: l => t ++ 32 :: joinL (u :: l)
theorem runL_le (w : Bool) : ∀ r : Bs, runL w r ≤ r.length
  | [] => Nat.le_refl _
  | c :: r => by
    unfold runL
    split
    · have := runL_le w r; simp; omega
    · exact Nat.zero_le _
theorem skipL_le : ∀ (q : Bool) (r : Bs), skipL q r ≤ r.length
  | true, [] => Nat.le_refl _
  | false, [] => Nat.le_refl _
  | true, c :: r => by
    unfold skipL
    have h1 := skipL_le false r; have h2 := skipL_le true r
    split <;> simp <;> omega
  | false, c :: r => by
    unfold skipL
    have h1 := skipL_le false r; have h2 := skipL_le true r
    split
    · simp; omega
    · split
      · simp; omega
      · exact Nat.zero_le _
/-- A token's length. -/
theorem tok_len {c : UInt8} {r : Bs} {k m : Nat} (h : tokC c r = some (k, m)) : 1 ≤ m ∧ m ≤ (c :: r).length ∧ 1 ≤ k := by
  have ht := runL_le true r; have hf := runL_le false r
  unfold tokC at h
  split at h
  · split at h
    · cases h; simp; omega
    · split at h
      · cases h
      · cases h; simp; omega
  · split at h
    · cases h; simp; omega
    · split at h
      · rename_i h3
        cases h
        have h4 : ((c :: r).take 3).length = 3 := by rw [h3]; rfl
        rw [List.length_take] at h4
        omega
      · split at h
        · rename_i h3
          cases h
          have h4 : ((c :: r).take 2).length = 2 := by
            simp only [signs2, List.mem_cons, List.not_mem_nil, or_false] at h3
            rcases h3 with h3 | h3 | h3 <;> rw [h3] <;> rfl
          rw [List.length_take] at h4
          omega
        · split at h
          · cases h; simp
          · cases h
theorem runL_cons (w : Bool) (c : UInt8) (r : Bs) : runL w (c :: r) = if onB w c = true then runL w r + 1 else 0 := rfl
/-- What a run is made of, and that it ends at what does not go on. -/
theorem run_app (w : Bool) : ∀ (r u : Bs), (∀ c, u.head? = some c → onB w c = false) → runL w (r.take (runL w r) ++ u) = runL w r
  | [], u, h => by
    cases u with
    | nil => rfl
    | cons c u => rw [List.take_nil, List.nil_append, runL_cons, if_neg (by rw [h c rfl]; decide)]; rfl
  | c :: r, u, h => by
    by_cases hc : onB w c = true
    · rw [runL_cons, if_pos hc, List.take_succ_cons, List.cons_append, runL_cons, if_pos hc, run_app w r u h]
    · rw [runL_cons, if_neg hc, List.take_zero, List.nil_append]
      cases u with
      | nil => rfl
      | cons d u => rw [runL_cons, if_neg (by rw [h d rfl]; decide)]
/-- A token with a blank behind it is the same token. -/
theorem tok_app {c : UInt8} {r : Bs} {k m : Nat} (h : tokC c r = some (k, m)) (u : Bs) : tokC c (r.take (m - 1) ++ 32 :: u) = some (k, m) := by
  have hrun : ∀ w, runL w (r.take (runL w r) ++ 32 :: u) = runL w r := fun w => run_app w r (32 :: u) fun d hd => by
    cases hd; cases w <;> decide
  have htk : ∀ w, (r.take (runL w r) ++ 32 :: u).take (runL w r) = r.take (runL w r) := fun w => by
    have : (r.take (runL w r)).length = runL w r := by rw [List.length_take]; have := runL_le w r; omega
    rw [List.take_append_of_le_length (by omega), List.take_of_length_le (by omega)]
  unfold tokC at h
  split at h
  · rename_i hl
    split at h
    · rename_i hw
      cases h
      rw [Nat.add_sub_cancel]
      unfold tokC
      rw [if_pos hl, hrun, htk, if_pos hw]
    · rename_i hw
      split at h
      · cases h
      · rename_i h32
        cases h
        rw [Nat.add_sub_cancel]
        unfold tokC
        rw [if_pos hl, hrun, htk, if_neg hw, if_neg h32]
  · rename_i hl
    split at h
    · rename_i hn
      cases h
      rw [Nat.add_sub_cancel]
      unfold tokC
      rw [if_neg hl, if_pos hn, hrun]
    · rename_i hn
      split at h
      · rename_i h3
        cases h
        unfold tokC
        rw [if_neg hl, if_neg hn, if_pos]
        match r, h3 with
        | [], h3 => simp at h3
        | [a], h3 => simp at h3
        | a :: b :: r, h3 => simpa using h3
      · rename_i h3
        split at h
        · rename_i h2
          cases h
          unfold tokC
          rw [if_neg hl, if_neg hn]
          match r, h2 with
          | [], h2 => simp [signs2] at h2
          | a :: r, h2 =>
            rw [if_neg, if_pos]
            · simpa using h2
            · simp
        · rename_i h2
          split at h
          · rename_i h1
            cases h
            unfold tokC
            rw [if_neg hl, if_neg hn, if_neg, if_neg, if_pos h1]
            · simp [signs2]
            · simp
          · cases h
/-- No token begins with a blank, or as a comment does. -/
theorem tok_skip {c : UInt8} {r : Bs} {k m : Nat} (h : tokC c r = some (k, m)) (u : Bs) : skipL false (c :: u) = 0 := by
  have h1 : c ≠ 32 ∧ c ≠ 9 ∧ c ≠ 10 ∧ c ≠ 47 := by
    refine ⟨?_, ?_, ?_, ?_⟩ <;>
    · rintro rfl
      unfold tokC at h
      rw [if_neg (by decide), if_neg (by decide), if_neg (by simp), if_neg (by simp [signs2]), if_neg (by decide)] at h
      cases h
  unfold skipL
  simp [h1.1, h1.2.1, h1.2.2.1, h1.2.2.2]
theorem skip_blank (bs : Bs) : skipL false (32 :: bs) = skipL false bs + 1 := rfl
theorem drop_take {c : UInt8} {r u : Bs} {m : Nat} (h1 : 1 ≤ m) (h2 : m ≤ (c :: r).length) : (c :: (r.take (m - 1) ++ 32 :: u)).drop m = 32 :: u ∧ (c :: (r.take (m - 1) ++ 32 :: u)).take m = (c :: r).take m := by
  obtain ⟨m, rfl⟩ : ∃ n, m = n + 1 := ⟨m - 1, by omega⟩
  have hl : (r.take m).length = m := by rw [List.length_take]; simp at h2; omega
  refine ⟨?_, ?_⟩
  · rw [Nat.add_sub_cancel, List.drop_succ_cons, List.drop_append_of_le_length (by omega), List.drop_of_length_le (by omega), List.nil_append]
  · rw [Nat.add_sub_cancel, List.take_succ_cons, List.take_succ_cons, List.take_append_of_le_length (by omega), List.take_of_length_le (by omega)]
/-- A lexer without error: its tokens, one behind the other. -/
theorem go_ok : ∀ (f : Nat) (bs : Bs) (i n : Nat), bs.length < f → (goL f bs i n).er = 0 →
    (bs = [] ∧ n ≠ 4000 ∧ goL f bs i n = ⟨[⟨0, [], i⟩], 0, 0⟩) ∨
    ∃ c r k m, bs = c :: r ∧ tokC c r = some (k, m) ∧ n ≠ 4000 ∧ (goL (f - 1) (((c :: r).drop m).drop (skipL false ((c :: r).drop m))) (i + m + skipL false ((c :: r).drop m)) (n + 1)).er = 0 ∧
      goL f bs i n = ⟨⟨k, (c :: r).take m, i⟩ :: (goL (f - 1) (((c :: r).drop m).drop (skipL false ((c :: r).drop m))) (i + m + skipL false ((c :: r).drop m)) (n + 1)).l, (goL (f - 1) (((c :: r).drop m).drop (skipL false ((c :: r).drop m))) (i + m + skipL false ((c :: r).drop m)) (n + 1)).at_, 0⟩ ∧
      (((c :: r).drop m).drop (skipL false ((c :: r).drop m))).length < f - 1
  | 0, bs, i, n, hf, _ => by omega
  | f + 1, [], i, n, hf, h => by
    by_cases hn : n = 4000
    · subst hn; exact absurd h (by show ¬ (150 : Nat) = 0; decide)
    · refine .inl ⟨rfl, hn, ?_⟩
      show (if n = 4000 then _ else _) = _
      rw [if_neg hn]
  | f + 1, c :: r, i, n, hf, h => by
    have e : goL (f + 1) (c :: r) i n = match tokC c r with
      | none => ⟨[], i, 100⟩
      | some (k, m) => if n = 4000 then ⟨[], i, 150⟩ else
        Wd.cons ⟨k, (c :: r).take m, i⟩ (goL f (((c :: r).drop m).drop (skipL false ((c :: r).drop m))) (i + m + skipL false ((c :: r).drop m)) (n + 1)) := rfl
    rcases ht : tokC c r with _ | ⟨k, m⟩
    · rw [e, ht] at h; exact absurd h (by show ¬ (100 : Nat) = 0; decide)
    · rw [e, ht] at h
      simp only at h
      by_cases hn : n = 4000
      · rw [if_pos hn] at h; exact absurd h (by show ¬ (150 : Nat) = 0; decide)
      · rw [if_neg hn] at h
        have hw : (goL f (((c :: r).drop m).drop (skipL false ((c :: r).drop m))) (i + m + skipL false ((c :: r).drop m)) (n + 1)).er = 0 := by
          unfold Wd.cons at h
          split at h
          · assumption
          · exact h
        have hm := tok_len ht
        refine .inr ⟨c, r, k, m, rfl, ht, hn, hw, ?_, ?_⟩
        · rw [e, ht]
          simp only
          rw [if_neg hn]
          unfold Wd.cons
          rw [if_pos hw]
          exact congrArg (Wd.mk _ _) hw
        · rw [List.length_drop, List.length_drop]; omega
def Tk.same (a b : Tk) : Prop := a.k = b.k ∧ a.s = b.s
/-- Kinds and texts alone. -/
def strip (l : List Tk) : List (Nat × Bs) := l.map fun t => (t.k, t.s)
theorem go_first : ∀ (f : Nat) (bs : Bs) (i n : Nat), bs.length < f → (goL f bs i n).er = 0 → ∃ t l, (goL f bs i n).l = t :: l ∧ (bs = [] → t = ⟨0, [], i⟩ ∧ l = []) ∧ (bs ≠ [] → l ≠ [] ∧ ∃ c r k m, bs = c :: r ∧ tokC c r = some (k, m) ∧ t = ⟨k, (c :: r).take m, i⟩) := fun f bs i n hf h => by
  rcases go_ok f bs i n hf h with ⟨rfl, hn, e⟩ | ⟨c, r, k, m, rfl, ht, hn, hw, e, hl⟩
  · exact ⟨_, _, by rw [e], fun _ => ⟨rfl, rfl⟩, fun h => absurd rfl h⟩
  · refine ⟨_, _, by rw [e], fun h => by (cases h), fun _ => ⟨fun hl0 => ?_, c, r, k, m, rfl, ht, rfl⟩⟩
    rcases go_ok (f - 1) _ _ _ hl hw with ⟨_, _, e2⟩ | ⟨_, _, _, _, _, _, _, _, e2, _⟩
    · rw [e2] at hl0; cases hl0
    · rw [e2] at hl0; cases hl0
theorem join_cons {t : Tk} {l : List Tk} (h : l ≠ []) : joinL ((t :: l).map Tk.s) = t.s ++ 32 :: joinL (l.map Tk.s) := by
  cases l with
  | nil => exact absurd rfl h
  | cons u l => rfl
/-- What is joined has the same tokens. -/
theorem go_join : ∀ (f : Nat) (bs : Bs) (i n : Nat), bs.length < f → (goL f bs i n).er = 0 → ∀ (f' j : Nat), (joinL ((goL f bs i n).l.map Tk.s)).length < f' →
    skipL false (joinL ((goL f bs i n).l.map Tk.s)) = 0 ∧ (goL f' (joinL ((goL f bs i n).l.map Tk.s)) j n).er = 0 ∧ strip (goL f' (joinL ((goL f bs i n).l.map Tk.s)) j n).l = strip (goL f bs i n).l := by
  intro f
  induction f with
  | zero => intro bs i n hf; omega
  | succ f ih =>
    intro bs i n hf h f' j hf'
    rcases go_ok (f + 1) bs i n hf h with ⟨rfl, hn, e⟩ | ⟨c, r, k, m, rfl, ht, hn, hw, e, hl⟩
    · rw [e] at hf' ⊢
      obtain ⟨f', rfl⟩ : ∃ g, f' = g + 1 := ⟨f' - 1, by omega⟩
      refine ⟨rfl, ?_, ?_⟩
      · show (if n = 4000 then (⟨[], j, 150⟩ : Wd) else ⟨[⟨0, [], j⟩], 0, 0⟩).er = 0
        rw [if_neg hn]
      · show strip (if n = 4000 then (⟨[], j, 150⟩ : Wd) else ⟨[⟨0, [], j⟩], 0, 0⟩).l = _
        rw [if_neg hn]; rfl
    · simp only [Nat.add_sub_cancel] at hw e hl
      generalize hB : ((c :: r).drop m).drop (skipL false ((c :: r).drop m)) = B at *
      generalize i + m + skipL false ((c :: r).drop m) = i2 at *
      have hm := tok_len ht
      obtain ⟨t1, l1, hl1, _, _⟩ := go_first f B i2 (n + 1) hl hw
      have hne : (goL f B i2 (n + 1)).l ≠ [] := by rw [hl1]; exact List.cons_ne_nil _ _
      rw [e] at hf' ⊢
      rw [join_cons (t := ⟨k, (c :: r).take m, i⟩) hne] at hf' ⊢
      generalize hJ : joinL ((goL f B i2 (n + 1)).l.map Tk.s) = J at *
      obtain ⟨m, rfl⟩ : ∃ q, m = q + 1 := ⟨m - 1, by omega⟩
      simp only [List.take_succ_cons, List.cons_append] at hf' ⊢
      have htk := tok_app ht J
      have hdt := drop_take (u := J) hm.1 hm.2.1
      simp only [Nat.add_sub_cancel] at htk hdt
      obtain ⟨f', rfl⟩ : ∃ g, f' = g + 1 := ⟨f' - 1, by omega⟩
      have hsk : skipL false J = 0 := by
        have := (ih B i2 (n + 1) hl hw (J.length + 1) 0 (by rw [hJ]; omega)).1
        rw [hJ] at this; exact this
      have hlen : J.length < f' := by simp at hf'; omega
      have hih := ih B i2 (n + 1) hl hw f' (j + (m + 1) + 1) (by rw [hJ]; exact hlen)
      rw [hJ] at hih
      have e2 : goL (f' + 1) (c :: (r.take m ++ 32 :: J)) j n = Wd.cons ⟨k, c :: r.take m, j⟩ (goL f' J (j + (m + 1) + 1) (n + 1)) := by
        show (match tokC c (r.take m ++ 32 :: J) with
          | none => (⟨[], j, 100⟩ : Wd)
          | some (k, m') => if n = 4000 then ⟨[], j, 150⟩ else Wd.cons ⟨k, (c :: (r.take m ++ 32 :: J)).take m', j⟩ (goL f' (((c :: (r.take m ++ 32 :: J)).drop m').drop (skipL false ((c :: (r.take m ++ 32 :: J)).drop m'))) (j + m' + skipL false ((c :: (r.take m ++ 32 :: J)).drop m')) (n + 1))) = _
        rw [htk]
        simp only
        rw [if_neg hn, hdt.1, hdt.2, skip_blank, hsk]
        rfl
      refine ⟨tok_skip ht _, ?_, ?_⟩
      · rw [e2]; unfold Wd.cons; rw [if_pos hih.2.1]; exact hih.2.1
      · rw [e2]; unfold Wd.cons; rw [if_pos hih.2.1]
        show (k, c :: r.take m) :: strip (goL f' J (j + (m + 1) + 1) (n + 1)).l = (k, c :: r.take m) :: strip (goL f B i2 (n + 1)).l
        rw [hih.2.2]
/-- Words of what is joined are the same, but for their places, if there are no more bytes than may be. -/
theorem words_join (s : Bs) (h : (wordsL s).er = 0) : (joinL ((wordsL s).l.map Tk.s)).length ≤ 20000 → (wordsL (joinL ((wordsL s).l.map Tk.s))).er = 0 ∧ strip (wordsL (joinL ((wordsL s).l.map Tk.s))).l = strip (wordsL s).l := by
  have e : wordsL s = goL (s.length + 1) (s.drop (skipL false s)) (skipL false s) 0 := by
    unfold wordsL at h ⊢
    split at h
    · exact absurd h (by show ¬ (150 : Nat) = 0; decide)
    · rename_i hs; rw [if_neg hs]
  rw [e] at h ⊢
  intro hl
  have hj := go_join (s.length + 1) (s.drop (skipL false s)) (skipL false s) 0 (by rw [List.length_drop]; omega) h
  generalize joinL ((goL (s.length + 1) (s.drop (skipL false s)) (skipL false s) 0).l.map Tk.s) = J at *
  have h0 := (hj (J.length + 1) 0 (by omega)).1
  unfold wordsL
  rw [if_neg (by omega), h0, List.drop_zero]
  exact (hj (J.length + 1) 0 (by omega)).2
/-- Where each token stands. -/
theorem go_order (s : Bs) : ∀ (f : Nat) (bs : Bs) (i n : Nat), bs.length < f → (goL f bs i n).er = 0 → s.drop i = bs → i ≤ s.length →
    ∀ (j : Nat) (t : Tk), (goL f bs i n).l[j]? = some t → i ≤ t.at_ ∧ t.at_ + t.s.length ≤ s.length ∧ (s.drop t.at_).take t.s.length = t.s ∧ (t.k = 0 ↔ j + 1 = (goL f bs i n).l.length) ∧ (∀ u, 0 < j → (goL f bs i n).l[j - 1]? = some u → u.at_ + u.s.length ≤ t.at_) := by
  intro f
  induction f with
  | zero => intro bs i n hf; omega
  | succ f ih =>
    intro bs i n hf h hs hi j t hj
    rcases go_ok (f + 1) bs i n hf h with ⟨rfl, hn, e⟩ | ⟨c, r, k, m, rfl, ht, hn, hw, e, hl⟩
    · rw [e] at hj ⊢
      cases j with
      | succ j => simp at hj
      | zero =>
        have ht : t = ⟨0, [], i⟩ := by simpa using hj.symm
        subst ht
        exact ⟨Nat.le_refl _, by simpa using hi, rfl, by simp, fun u h0 => absurd h0 (by omega)⟩
    · simp only [Nat.add_sub_cancel] at hw e hl
      have hm := tok_len ht
      have hlen : (s.drop i).length = (c :: r).length := by rw [hs]
      have hsk := skipL_le false ((c :: r).drop m)
      have hdm : ((c :: r).drop m).length = (c :: r).length - m := List.length_drop
      have hB : s.drop (i + m + skipL false ((c :: r).drop m)) = ((c :: r).drop m).drop (skipL false ((c :: r).drop m)) := by
        rw [← List.drop_drop, ← List.drop_drop, hs]
      have hi2 : i + m + skipL false ((c :: r).drop m) ≤ s.length := by rw [List.length_drop] at hlen; omega
      have him : i + m ≤ i + m + skipL false ((c :: r).drop m) := by omega
      obtain ⟨t1, l1, hl1, h0, h1⟩ := go_first f _ _ (n + 1) hl hw
      have hih := ih _ _ (n + 1) hl hw hB hi2
      generalize ((c :: r).drop m).drop (skipL false ((c :: r).drop m)) = B at *
      generalize i + m + skipL false ((c :: r).drop m) = i2 at *
      have htl : ((c :: r).take m).length = m := by rw [List.length_take]; omega
      rw [e] at hj ⊢
      cases j with
      | zero =>
        have htt : t = ⟨k, (c :: r).take m, i⟩ := by simpa using hj.symm
        subst htt
        refine ⟨Nat.le_refl _, ?_, ?_, ?_, fun u h0 => absurd h0 (by omega)⟩
        · show i + ((c :: r).take m).length ≤ _
          rw [htl]; rw [List.length_drop] at hlen; omega
        · show (s.drop i).take ((c :: r).take m).length = _
          rw [htl, hs]
        · constructor
          · intro hk; exact absurd hk (by show ¬ k = 0; omega)
          · intro hx
            rw [List.length_cons, hl1, List.length_cons] at hx
            omega
      | succ j =>
        have hj2 : (goL f B i2 (n + 1)).l[j]? = some t := by simpa using hj
        obtain ⟨a1, a2, a3, a4, a5⟩ := hih j t hj2
        refine ⟨by omega, a2, a3, ?_, ?_⟩
        · rw [List.length_cons]
          constructor
          · intro hk; have := a4.1 hk; omega
          · intro hx; exact a4.2 (by omega)
        · intro u _ hu
          cases j with
          | zero =>
            have huu : u = ⟨k, (c :: r).take m, i⟩ := by simpa using hu.symm
            subst huu
            show i + ((c :: r).take m).length ≤ t.at_
            rw [htl]; omega
          | succ j => exact a5 u (by omega) (by simpa using hu)
theorem words_order (s : Bs) (h : (wordsL s).er = 0) : (wordsL s).l ≠ [] ∧ ∀ (j : Nat) (t : Tk), (wordsL s).l[j]? = some t → t.at_ + t.s.length ≤ s.length ∧ (s.drop t.at_).take t.s.length = t.s ∧ (t.k = 0 ↔ j + 1 = (wordsL s).l.length) ∧ (∀ u, 0 < j → (wordsL s).l[j - 1]? = some u → u.at_ + u.s.length ≤ t.at_) := by
  have e : wordsL s = goL (s.length + 1) (s.drop (skipL false s)) (skipL false s) 0 := by
    unfold wordsL at h ⊢
    split at h
    · exact absurd h (by show ¬ (150 : Nat) = 0; decide)
    · rename_i hs; rw [if_neg hs]
  rw [e] at h ⊢
  have hf : (s.drop (skipL false s)).length < s.length + 1 := by rw [List.length_drop]; omega
  refine ⟨?_, fun j t hj => (go_order s (s.length + 1) _ _ 0 hf h rfl (skipL_le false s) j t hj).2⟩
  obtain ⟨t1, l1, hl1, _, _⟩ := go_first (s.length + 1) _ _ 0 hf h
  rw [hl1]; exact List.cons_ne_nil _ _
/-- With an error there are no tokens. -/
theorem go_err : ∀ (f : Nat) (bs : Bs) (i n : Nat), (goL f bs i n).er ≠ 0 → (goL f bs i n).l = []
  | 0, _, _, _, h => absurd rfl h
  | f + 1, [], i, n, h => by
    by_cases hn : n = 4000
    · subst hn; rfl
    · exact absurd (show (if n = 4000 then (⟨[], i, 150⟩ : Wd) else ⟨[⟨0, [], i⟩], 0, 0⟩).er = 0 by rw [if_neg hn]) h
  | f + 1, c :: r, i, n, h => by
    have e : goL (f + 1) (c :: r) i n = match tokC c r with
      | none => ⟨[], i, 100⟩
      | some (k, m) => if n = 4000 then ⟨[], i, 150⟩ else
        Wd.cons ⟨k, (c :: r).take m, i⟩ (goL f (((c :: r).drop m).drop (skipL false ((c :: r).drop m))) (i + m + skipL false ((c :: r).drop m)) (n + 1)) := rfl
    rcases ht : tokC c r with _ | ⟨k, m⟩
    · rw [e, ht]
    · rw [e, ht] at h ⊢
      simp only at h ⊢
      by_cases hn : n = 4000
      · rw [if_pos hn]
      · rw [if_neg hn] at h ⊢
        unfold Wd.cons at h ⊢
        split at h
        · rename_i h0; exact absurd h0 h
        · rename_i h0; rw [if_neg h0]; exact go_err f _ _ _ h0
theorem words_err (s : Bs) (h : (wordsL s).er ≠ 0) : (wordsL s).l = [] := by
  unfold wordsL at h ⊢
  split at h
  · rename_i hs; rw [if_pos hs]
  · rename_i hs; rw [if_neg hs]; exact go_err _ _ _ _ h
theorem words_long (s : Bs) (h : 20000 < s.length) : wordsL s = ⟨[], 0, 150⟩ := by unfold wordsL; rw [if_pos h]
end Go.Proofs.YtiagagljghoacaaDoor.Lx
