/- DERIVED. LxSpec, LxPl in one text. By an AI agent. -/
import Derived.Lib.IndexMore
/- DERIVED. The words of programs, plainly: a text's tokens, and that what is joined is the same tokens again. Of no program. By an AI agent. -/
namespace Go.Proofs.YtkdpndoollbggaaDoor.Lx
abbrev Bs := List UInt8
def letB (c : UInt8) : Bool := (65 ≤ c.toNat && c.toNat ≤ 90) || (97 ≤ c.toNat && c.toNat ≤ 122)
def numB (c : UInt8) : Bool := 48 ≤ c.toNat && c.toNat ≤ 57
/-- What may go on in a word, or in a number. -/
def onB (word : Bool) (c : UInt8) : Bool := letB c || numB c || (word && c == 95)
def runL (w : Bool) : Bs → Nat
  | [] => 0
  | c :: r => if onB w c then runL w r + 1 else 0
/-- How many bytes are passed over: in a comment, or not. -/
def skipL : Bool → Bs → Nat
  | _, [] => 0
  | true, c :: r => if c == 10 then skipL false r + 1 else skipL true r + 1
  | false, c :: r => if c == 32 || c == 9 || c == 10 then skipL false r + 1 else if c == 47 && r.head? == some 47 then skipL true r + 1 else 0
/-- The words of the language. -/
def words7 : List Bs := [[115, 101, 99, 114, 101, 116], [112, 117, 98, 108, 105, 99], [111, 117, 116], [115, 104, 111, 119], [102, 111, 114], [105, 110], [102, 110]]
def wordB (s : Bs) : Bool := words7.contains s
def signs2 : List Bs := [[60, 60], [62, 62], [46, 46]]
def signs1 : Bs := [61, 59, 44, 40, 41, 123, 125, 43, 45, 38, 124, 94, 126]
/-- A token's kind and length; none: nothing begins so. -/
def tokC (c : UInt8) (r : Bs) : Option (Nat × Nat) :=
  if letB c = true then
    if wordB (c :: r.take (runL true r)) = true then some (3, runL true r + 1) else if 32 < runL true r + 1 then none else some (1, runL true r + 1)
  else if numB c = true then some (2, runL false r + 1)
  else if (c :: r).take 3 = [60, 60, 60] then some (4, 3)
  else if (c :: r).take 2 ∈ signs2 then some (4, 2)
  else if c ∈ signs1 then some (4, 1)
  else none
structure Tk where
  k : Nat
  s : Bs
  at_ : Nat
  deriving DecidableEq
/-- Tokens, a place, an error. -/
structure Wd where
  l : List Tk
  at_ : Nat
  er : Nat
def Wd.cons (t : Tk) (w : Wd) : Wd := if w.er = 0 then ⟨t :: w.l, w.at_, w.er⟩ else w
/-- From a token's place on: bs is what is left from place i on, n tokens are there. -/
def goL : Nat → Bs → Nat → Nat → Wd
  | 0, _, _, _ => ⟨[], 0, 0⟩
  | f + 1, bs, i, n =>
    match bs with
    | [] => if n = 4000 then ⟨[], i, 150⟩ else ⟨[⟨0, [], i⟩], 0, 0⟩
    | c :: r =>
      match tokC c r with
      | none => ⟨[], i, 100⟩
      | some (k, m) => if n = 4000 then ⟨[], i, 150⟩ else
        Wd.cons ⟨k, (c :: r).take m, i⟩ (goL f (((c :: r).drop m).drop (skipL false ((c :: r).drop m))) (i + m + skipL false ((c :: r).drop m)) (n + 1))
def wordsL (s : Bs) : Wd := if 20000 < s.length then ⟨[], 0, 150⟩ else goL (s.length + 1) (s.drop (skipL false s)) (skipL false s) 0
/-- Texts with a blank between any two. -/
def joinL : List Bs → Bs
  | [] => []
  | [t] => t
  | t :: u :: l => t ++ 32 :: joinL (u :: l)
theorem runL_le (w : Bool) : ∀ r : Bs, runL w r ≤ r.length
  | [] => Nat.le_refl _
  | c :: r => by
    unfold runL
    split
    · have := runL_le w r; simp; omega
    · exact Nat.zero_le _
theorem skipL_le : ∀ (q : Bool) (r : Bs), skipL q r ≤ r.length
  | true, [] => Nat.le_refl _
  | false, [] => Nat.le_refl _
  | true, c :: r => by
    unfold skipL
    have h1 := skipL_le false r; have h2 := skipL_le true r
    split <;> simp <;> omega
  | false, c :: r => by
    unfold skipL
    have h1 := skipL_le false r; have h2 := skipL_le true r
    split
    · simp; omega
    · split
      · simp; omega
      · exact Nat.zero_le _
/-- A token's length. -/
theorem tok_len {c : UInt8} {r : Bs} {k m : Nat} (h : tokC c r = some (k, m)) : 1 ≤ m ∧ m ≤ (c :: r).length ∧ 1 ≤ k := by
  have ht := runL_le true r; have hf := runL_le false r
  unfold tokC at h
  split at h
  · split at h
    · cases h; simp; omega
    · split at h
      · cases h
      · cases h; simp; omega
  · split at h
    · cases h; simp; omega
    · split at h
      · rename_i h3
        cases h
        have h4 : ((c :: r).take 3).length = 3 := by rw [h3]; rfl
        rw [List.length_take] at h4
        omega
      · split at h
        · rename_i h3
          cases h
          have h4 : ((c :: r).take 2).length = 2 := by
            simp only [signs2, List.mem_cons, List.not_mem_nil, or_false] at h3
            rcases h3 with h3 | h3 | h3 <;> rw [h3] <;> rfl
          rw [List.length_take] at h4
          omega
        · split at h
          · cases h; simp
          · cases h
theorem runL_cons (w : Bool) (c : UInt8) (r : Bs) : runL w (c :: r) = if onB w c = true then runL w r + 1 else 0 := rfl
/-- What a run is made of, and that it ends at what does not go on. -/
theorem run_app (w : Bool) : ∀ (r u : Bs), (∀ c, u.head? = some c → onB w c = false) → runL w (r.take (runL w r) ++ u) = runL w r
  | [], u, h => by
    cases u with
    | nil => rfl
    | cons c u => rw [List.take_nil, List.nil_append, runL_cons, if_neg (by rw [h c rfl]; decide)]; rfl
  | c :: r, u, h => by
    by_cases hc : onB w c = true
    · rw [runL_cons, if_pos hc, List.take_succ_cons, List.cons_append, runL_cons, if_pos hc, run_app w r u h]
    · rw [runL_cons, if_neg hc, List.take_zero, List.nil_append]
      cases u with
      | nil => rfl
      | cons d u => rw [runL_cons, if_neg (by rw [h d rfl]; decide)]
/-- A token with a blank behind it is the same token. -/
theorem tok_app {c : UInt8} {r : Bs} {k m : Nat} (h : tokC c r = some (k, m)) (u : Bs) : tokC c (r.take (m - 1) ++ 32 :: u) = some (k, m) := by
  have hrun : ∀ w, runL w (r.take (runL w r) ++ 32 :: u) = runL w r := fun w => run_app w r (32 :: u) fun d hd => by
    cases hd; cases w <;> decide
  have htk : ∀ w, (r.take (runL w r) ++ 32 :: u).take (runL w r) = r.take (runL w r) := fun w => by
    have : (r.take (runL w r)).length = runL w r := by rw [List.length_take]; have := runL_le w r; omega
    rw [List.take_append_of_le_length (by omega), List.take_of_length_le (by omega)]
  unfold tokC at h
  split at h
  · rename_i hl
    split at h
    · rename_i hw
      cases h
      rw [Nat.add_sub_cancel]
      unfold tokC
      rw [if_pos hl, hrun, htk, if_pos hw]
    · rename_i hw
      split at h
      · cases h
      · rename_i h32
        cases h
        rw [Nat.add_sub_cancel]
        unfold tokC
        rw [if_pos hl, hrun, htk, if_neg hw, if_neg h32]
  · rename_i hl
    split at h
    · rename_i hn
      cases h
      rw [Nat.add_sub_cancel]
      unfold tokC
      rw [if_neg hl, if_pos hn, hrun]
    · rename_i hn
      split at h
      · rename_i h3
        cases h
        unfold tokC
        rw [if_neg hl, if_neg hn, if_pos]
        match r, h3 with
        | [], h3 => simp at h3
        | [a], h3 => simp at h3
        | a :: b :: r, h3 => simpa using h3
      · rename_i h3
        split at h
        · rename_i h2
          cases h
          unfold tokC
          rw [if_neg hl, if_neg hn]
          match r, h2 with
          | [], h2 => simp [signs2] at h2
          | a :: r, h2 =>
            rw [if_neg, if_pos]
            · simpa using h2
            · simp
        · rename_i h2
          split at h
          · rename_i h1
            cases h
            unfold tokC
            rw [if_neg hl, if_neg hn, if_neg, if_neg, if_pos h1]
            · simp [signs2]
            · simp
          · cases h
/-- No token begins with a blank, or as a comment does. -/
theorem tok_skip {c : UInt8} {r : Bs} {k m : Nat} (h : tokC c r = some (k, m)) (u : Bs) : skipL false (c :: u) = 0 := by
  have h1 : c ≠ 32 ∧ c ≠ 9 ∧ c ≠ 10 ∧ c ≠ 47 := by
    refine ⟨?_, ?_, ?_, ?_⟩ <;>
    · rintro rfl
      unfold tokC at h
      rw [if_neg (by decide), if_neg (by decide), if_neg (by simp), if_neg (by simp [signs2]), if_neg (by decide)] at h
      cases h
  unfold skipL
  simp [h1.1, h1.2.1, h1.2.2.1, h1.2.2.2]
theorem skip_blank (bs : Bs) : skipL false (32 :: bs) = skipL false bs + 1 := rfl
theorem drop_take {c : UInt8} {r u : Bs} {m : Nat} (h1 : 1 ≤ m) (h2 : m ≤ (c :: r).length) : (c :: (r.take (m - 1) ++ 32 :: u)).drop m = 32 :: u ∧ (c :: (r.take (m - 1) ++ 32 :: u)).take m = (c :: r).take m := by
  obtain ⟨m, rfl⟩ : ∃ n, m = n + 1 := ⟨m - 1, by omega⟩
  have hl : (r.take m).length = m := by rw [List.length_take]; simp at h2; omega
  refine ⟨?_, ?_⟩
  · rw [Nat.add_sub_cancel, List.drop_succ_cons, List.drop_append_of_le_length (by omega), List.drop_of_length_le (by omega), List.nil_append]
  · rw [Nat.add_sub_cancel, List.take_succ_cons, List.take_succ_cons, List.take_append_of_le_length (by omega), List.take_of_length_le (by omega)]
/-- A lexer without error: its tokens, one behind the other. -/
theorem go_ok : ∀ (f : Nat) (bs : Bs) (i n : Nat), bs.length < f → (goL f bs i n).er = 0 →
    (bs = [] ∧ n ≠ 4000 ∧ goL f bs i n = ⟨[⟨0, [], i⟩], 0, 0⟩) ∨
    ∃ c r k m, bs = c :: r ∧ tokC c r = some (k, m) ∧ n ≠ 4000 ∧ (goL (f - 1) (((c :: r).drop m).drop (skipL false ((c :: r).drop m))) (i + m + skipL false ((c :: r).drop m)) (n + 1)).er = 0 ∧
      goL f bs i n = ⟨⟨k, (c :: r).take m, i⟩ :: (goL (f - 1) (((c :: r).drop m).drop (skipL false ((c :: r).drop m))) (i + m + skipL false ((c :: r).drop m)) (n + 1)).l, (goL (f - 1) (((c :: r).drop m).drop (skipL false ((c :: r).drop m))) (i + m + skipL false ((c :: r).drop m)) (n + 1)).at_, 0⟩ ∧
      (((c :: r).drop m).drop (skipL false ((c :: r).drop m))).length < f - 1
  | 0, bs, i, n, hf, _ => by omega
  | f + 1, [], i, n, hf, h => by
    by_cases hn : n = 4000
    · subst hn; exact absurd h (by show ¬ (150 : Nat) = 0; decide)
    · refine .inl ⟨rfl, hn, ?_⟩
      show (if n = 4000 then _ else _) = _
      rw [if_neg hn]
  | f + 1, c :: r, i, n, hf, h => by
    have e : goL (f + 1) (c :: r) i n = match tokC c r with
      | none => ⟨[], i, 100⟩
      | some (k, m) => if n = 4000 then ⟨[], i, 150⟩ else
        Wd.cons ⟨k, (c :: r).take m, i⟩ (goL f (((c :: r).drop m).drop (skipL false ((c :: r).drop m))) (i + m + skipL false ((c :: r).drop m)) (n + 1)) := rfl
    rcases ht : tokC c r with _ | ⟨k, m⟩
    · rw [e, ht] at h; exact absurd h (by show ¬ (100 : Nat) = 0; decide)
    · rw [e, ht] at h
      simp only at h
      by_cases hn : n = 4000
      · rw [if_pos hn] at h; exact absurd h (by show ¬ (150 : Nat) = 0; decide)
      · rw [if_neg hn] at h
        have hw : (goL f (((c :: r).drop m).drop (skipL false ((c :: r).drop m))) (i + m + skipL false ((c :: r).drop m)) (n + 1)).er = 0 := by
          unfold Wd.cons at h
          split at h
          · assumption
          · exact h
        have hm := tok_len ht
        refine .inr ⟨c, r, k, m, rfl, ht, hn, hw, ?_, ?_⟩
        · rw [e, ht]
          simp only
          rw [if_neg hn]
          unfold Wd.cons
          rw [if_pos hw]
          exact congrArg (Wd.mk _ _) hw
        · rw [List.length_drop, List.length_drop]; omega
def Tk.same (a b : Tk) : Prop := a.k = b.k ∧ a.s = b.s
/-- Kinds and texts alone. -/
def strip (l : List Tk) : List (Nat × Bs) := l.map fun t => (t.k, t.s)
theorem go_first : ∀ (f : Nat) (bs : Bs) (i n : Nat), bs.length < f → (goL f bs i n).er = 0 → ∃ t l, (goL f bs i n).l = t :: l ∧ (bs = [] → t = ⟨0, [], i⟩ ∧ l = []) ∧ (bs ≠ [] → l ≠ [] ∧ ∃ c r k m, bs = c :: r ∧ tokC c r = some (k, m) ∧ t = ⟨k, (c :: r).take m, i⟩) := fun f bs i n hf h => by
  rcases go_ok f bs i n hf h with ⟨rfl, hn, e⟩ | ⟨c, r, k, m, rfl, ht, hn, hw, e, hl⟩
  · exact ⟨_, _, by rw [e], fun _ => ⟨rfl, rfl⟩, fun h => absurd rfl h⟩
  · refine ⟨_, _, by rw [e], fun h => by (cases h), fun _ => ⟨fun hl0 => ?_, c, r, k, m, rfl, ht, rfl⟩⟩
    rcases go_ok (f - 1) _ _ _ hl hw with ⟨_, _, e2⟩ | ⟨_, _, _, _, _, _, _, _, e2, _⟩
    · rw [e2] at hl0; cases hl0
    · rw [e2] at hl0; cases hl0
theorem join_cons {t : Tk} {l : List Tk} (h : l ≠ []) : joinL ((t :: l).map Tk.s) = t.s ++ 32 :: joinL (l.map Tk.s) := by
  cases l with
  | nil => exact absurd rfl h
  | cons u l => rfl
/-- What is joined has the same tokens. -/
theorem go_join : ∀ (f : Nat) (bs : Bs) (i n : Nat), bs.length < f → (goL f bs i n).er = 0 → ∀ (f' j : Nat), (joinL ((goL f bs i n).l.map Tk.s)).length < f' →
    skipL false (joinL ((goL f bs i n).l.map Tk.s)) = 0 ∧ (goL f' (joinL ((goL f bs i n).l.map Tk.s)) j n).er = 0 ∧ strip (goL f' (joinL ((goL f bs i n).l.map Tk.s)) j n).l = strip (goL f bs i n).l := by
  intro f
  induction f with
  | zero => intro bs i n hf; omega
  | succ f ih =>
    intro bs i n hf h f' j hf'
    rcases go_ok (f + 1) bs i n hf h with ⟨rfl, hn, e⟩ | ⟨c, r, k, m, rfl, ht, hn, hw, e, hl⟩
    · rw [e] at hf' ⊢
      obtain ⟨f', rfl⟩ : ∃ g, f' = g + 1 := ⟨f' - 1, by omega⟩
      refine ⟨rfl, ?_, ?_⟩
      · show (if n = 4000 then (⟨[], j, 150⟩ : Wd) else ⟨[⟨0, [], j⟩], 0, 0⟩).er = 0
        rw [if_neg hn]
      · show strip (if n = 4000 then (⟨[], j, 150⟩ : Wd) else ⟨[⟨0, [], j⟩], 0, 0⟩).l = _
        rw [if_neg hn]; rfl
    · simp only [Nat.add_sub_cancel] at hw e hl
      generalize hB : ((c :: r).drop m).drop (skipL false ((c :: r).drop m)) = B at *
      generalize i + m + skipL false ((c :: r).drop m) = i2 at *
      have hm := tok_len ht
      obtain ⟨t1, l1, hl1, _, _⟩ := go_first f B i2 (n + 1) hl hw
      have hne : (goL f B i2 (n + 1)).l ≠ [] := by rw [hl1]; exact List.cons_ne_nil _ _
      rw [e] at hf' ⊢
      rw [join_cons (t := ⟨k, (c :: r).take m, i⟩) hne] at hf' ⊢
      generalize hJ : joinL ((goL f B i2 (n + 1)).l.map Tk.s) = J at *
      obtain ⟨m, rfl⟩ : ∃ q, m = q + 1 := ⟨m - 1, by omega⟩
      simp only [List.take_succ_cons, List.cons_append] at hf' ⊢
      have htk := tok_app ht J
      have hdt := drop_take (u := J) hm.1 hm.2.1
      simp only [Nat.add_sub_cancel] at htk hdt
      obtain ⟨f', rfl⟩ : ∃ g, f' = g + 1 := ⟨f' - 1, by omega⟩
      have hsk : skipL false J = 0 := by
        have := (ih B i2 (n + 1) hl hw (J.length + 1) 0 (by rw [hJ]; omega)).1
        rw [hJ] at this; exact this
      have hlen : J.length < f' := by simp at hf'; omega
      have hih := ih B i2 (n + 1) hl hw f' (j + (m + 1) + 1) (by rw [hJ]; exact hlen)
      rw [hJ] at hih
      have e2 : goL (f' + 1) (c :: (r.take m ++ 32 :: J)) j n = Wd.cons ⟨k, c :: r.take m, j⟩ (goL f' J (j + (m + 1) + 1) (n + 1)) := by
        show (match tokC c (r.take m ++ 32 :: J) with
          | none => (⟨[], j, 100⟩ : Wd)
          | some (k, m') => if n = 4000 then ⟨[], j, 150⟩ else Wd.cons ⟨k, (c :: (r.take m ++ 32 :: J)).take m', j⟩ (goL f' (((c :: (r.take m ++ 32 :: J)).drop m').drop (skipL false ((c :: (r.take m ++ 32 :: J)).drop m'))) (j + m' + skipL false ((c :: (r.take m ++ 32 :: J)).drop m')) (n + 1))) = _
        rw [htk]
        simp only
        rw [if_neg hn, hdt.1, hdt.2, skip_blank, hsk]
        rfl
      refine ⟨tok_skip ht _, ?_, ?_⟩
      · rw [e2]; unfold Wd.cons; rw [if_pos hih.2.1]; exact hih.2.1
      · rw [e2]; unfold Wd.cons; rw [if_pos hih.2.1]
        show (k, c :: r.take m) :: strip (goL f' J (j + (m + 1) + 1) (n + 1)).l = (k, c :: r.take m) :: strip (goL f B i2 (n + 1)).l
        rw [hih.2.2]
/-- Words of what is joined are the same, but for their places, if there are no more bytes than may be. -/
theorem words_join (s : Bs) (h : (wordsL s).er = 0) : (joinL ((wordsL s).l.map Tk.s)).length ≤ 20000 → (wordsL (joinL ((wordsL s).l.map Tk.s))).er = 0 ∧ strip (wordsL (joinL ((wordsL s).l.map Tk.s))).l = strip (wordsL s).l := by
  have e : wordsL s = goL (s.length + 1) (s.drop (skipL false s)) (skipL false s) 0 := by
    unfold wordsL at h ⊢
    split at h
    · exact absurd h (by show ¬ (150 : Nat) = 0; decide)
    · rename_i hs; rw [if_neg hs]
  rw [e] at h ⊢
  intro hl
  have hj := go_join (s.length + 1) (s.drop (skipL false s)) (skipL false s) 0 (by rw [List.length_drop]; omega) h
  generalize joinL ((goL (s.length + 1) (s.drop (skipL false s)) (skipL false s) 0).l.map Tk.s) = J at *
  have h0 := (hj (J.length + 1) 0 (by omega)).1
  unfold wordsL
  rw [if_neg (by omega), h0, List.drop_zero]
  exact (hj (J.length + 1) 0 (by omega)).2
/-- Where each token stands. -/
theorem go_order (s : Bs) : ∀ (f : Nat) (bs : Bs) (i n : Nat), bs.length < f → (goL f bs i n).er = 0 → s.drop i = bs → i ≤ s.length →
    ∀ (j : Nat) (t : Tk), (goL f bs i n).l[j]? = some t → i ≤ t.at_ ∧ t.at_ + t.s.length ≤ s.length ∧ (s.drop t.at_).take t.s.length = t.s ∧ (t.k = 0 ↔ j + 1 = (goL f bs i n).l.length) ∧ (∀ u, 0 < j → (goL f bs i n).l[j - 1]? = some u → u.at_ + u.s.length ≤ t.at_) := by
  intro f
  induction f with
  | zero => intro bs i n hf; omega
  | succ f ih =>
    intro bs i n hf h hs hi j t hj
    rcases go_ok (f + 1) bs i n hf h with ⟨rfl, hn, e⟩ | ⟨c, r, k, m, rfl, ht, hn, hw, e, hl⟩
    · rw [e] at hj ⊢
      cases j with
      | succ j => simp at hj
      | zero =>
        have ht : t = ⟨0, [], i⟩ := by simpa using hj.symm
        subst ht
        exact ⟨Nat.le_refl _, by simpa using hi, rfl, by simp, fun u h0 => absurd h0 (by omega)⟩
    · simp only [Nat.add_sub_cancel] at hw e hl
      have hm := tok_len ht
      have hlen : (s.drop i).length = (c :: r).length := by rw [hs]
      have hsk := skipL_le false ((c :: r).drop m)
      have hdm : ((c :: r).drop m).length = (c :: r).length - m := List.length_drop
      have hB : s.drop (i + m + skipL false ((c :: r).drop m)) = ((c :: r).drop m).drop (skipL false ((c :: r).drop m)) := by
        rw [← List.drop_drop, ← List.drop_drop, hs]
      have hi2 : i + m + skipL false ((c :: r).drop m) ≤ s.length := by rw [List.length_drop] at hlen; omega
      have him : i + m ≤ i + m + skipL false ((c :: r).drop m) := by omega
      obtain ⟨t1, l1, hl1, h0, h1⟩ := go_first f _ _ (n + 1) hl hw
      have hih := ih _ _ (n + 1) hl hw hB hi2
      generalize ((c :: r).drop m).drop (skipL false ((c :: r).drop m)) = B at *
      generalize i + m + skipL false ((c :: r).drop m) = i2 at *
      have htl : ((c :: r).take m).length = m := by rw [List.length_take]; omega
      rw [e] at hj ⊢
      cases j with
      | zero =>
        have htt : t = ⟨k, (c :: r).take m, i⟩ := by simpa using hj.symm
        subst htt
        refine ⟨Nat.le_refl _, ?_, ?_, ?_, fun u h0 => absurd h0 (by omega)⟩
        · show i + ((c :: r).take m).length ≤ _
          rw [htl]; rw [List.length_drop] at hlen; omega
        · show (s.drop i).take ((c :: r).take m).length = _
          rw [htl, hs]
        · constructor
          · intro hk; exact absurd hk (by show ¬ k = 0; omega)
          · intro hx
            rw [List.length_cons, hl1, List.length_cons] at hx
            omega
      | succ j =>
        have hj2 : (goL f B i2 (n + 1)).l[j]? = some t := by simpa using hj
        obtain ⟨a1, a2, a3, a4, a5⟩ := hih j t hj2
        refine ⟨by omega, a2, a3, ?_, ?_⟩
        · rw [List.length_cons]
          constructor
          · intro hk; have := a4.1 hk; omega
          · intro hx; exact a4.2 (by omega)
        · intro u _ hu
          cases j with
          | zero =>
            have huu : u = ⟨k, (c :: r).take m, i⟩ := by simpa using hu.symm
            subst huu
            show i + ((c :: r).take m).length ≤ t.at_
            rw [htl]; omega
          | succ j => exact a5 u (by omega) (by simpa using hu)
theorem words_order (s : Bs) (h : (wordsL s).er = 0) : (wordsL s).l ≠ [] ∧ ∀ (j : Nat) (t : Tk), (wordsL s).l[j]? = some t → t.at_ + t.s.length ≤ s.length ∧ (s.drop t.at_).take t.s.length = t.s ∧ (t.k = 0 ↔ j + 1 = (wordsL s).l.length) ∧ (∀ u, 0 < j → (wordsL s).l[j - 1]? = some u → u.at_ + u.s.length ≤ t.at_) := by
  have e : wordsL s = goL (s.length + 1) (s.drop (skipL false s)) (skipL false s) 0 := by
    unfold wordsL at h ⊢
    split at h
    · exact absurd h (by show ¬ (150 : Nat) = 0; decide)
    · rename_i hs; rw [if_neg hs]
  rw [e] at h ⊢
  have hf : (s.drop (skipL false s)).length < s.length + 1 := by rw [List.length_drop]; omega
  refine ⟨?_, fun j t hj => (go_order s (s.length + 1) _ _ 0 hf h rfl (skipL_le false s) j t hj).2⟩
  obtain ⟨t1, l1, hl1, _, _⟩ := go_first (s.length + 1) _ _ 0 hf h
  rw [hl1]; exact List.cons_ne_nil _ _
/-- With an error there are no tokens. -/
theorem go_err : ∀ (f : Nat) (bs : Bs) (i n : Nat), (goL f bs i n).er ≠ 0 → (goL f bs i n).l = []
  | 0, _, _, _, h => absurd rfl h
  | f + 1, [], i, n, h => by
    by_cases hn : n = 4000
    · subst hn; rfl
    · exact absurd (show (if n = 4000 then (⟨[], i, 150⟩ : Wd) else ⟨[⟨0, [], i⟩], 0, 0⟩).er = 0 by rw [if_neg hn]) h
  | f + 1, c :: r, i, n, h => by
    have e : goL (f + 1) (c :: r) i n = match tokC c r with
      | none => ⟨[], i, 100⟩
      | some (k, m) => if n = 4000 then ⟨[], i, 150⟩ else
        Wd.cons ⟨k, (c :: r).take m, i⟩ (goL f (((c :: r).drop m).drop (skipL false ((c :: r).drop m))) (i + m + skipL false ((c :: r).drop m)) (n + 1)) := rfl
    rcases ht : tokC c r with _ | ⟨k, m⟩
    · rw [e, ht]
    · rw [e, ht] at h ⊢
      simp only at h ⊢
      by_cases hn : n = 4000
      · rw [if_pos hn]
      · rw [if_neg hn] at h ⊢
        unfold Wd.cons at h ⊢
        split at h
        · rename_i h0; exact absurd h0 h
        · rename_i h0; rw [if_neg h0]; exact go_err f _ _ _ h0
theorem words_err (s : Bs) (h : (wordsL s).er ≠ 0) : (wordsL s).l = [] := by
  unfold wordsL at h ⊢
  split at h
  · rename_i hs; rw [if_pos hs]
  · rename_i hs; rw [if_neg hs]; exact go_err _ _ _ _ h
theorem words_long (s : Bs) (h : 20000 < s.length) : wordsL s = ⟨[], 0, 150⟩ := by unfold wordsL; rw [if_pos h]
end Go.Proofs.YtkdpndoollbggaaDoor.Lx
/- DERIVED. The words of programs, plainly: as the program takes them: what is left behind all that is passed over, the first token of a text by a list of signs, the list of what its iterator hands over. Of no program. By an AI agent. -/
namespace Go.Proofs.YtkdpndoollbggaaDoor.Lx
/-- What is left behind all that is passed over. -/
def restL (r : Bs) : Bs := r.drop (skipL false r)
def blk3 : Bs := [32, 9, 10]
theorem skip_blk {c : UInt8} {r : Bs} (h : blk3.contains c = true) : skipL false (c :: r) = skipL false r + 1 := by
  have h' : (c == 32 || c == 9 || c == 10) = true := by simpa [blk3, Bool.or_assoc] using h
  show (if c == 32 || c == 9 || c == 10 then _ else _) = _
  rw [if_pos h']
theorem rest_trim : ∀ r : Bs, restL (r.dropWhile (blk3.contains ·)) = restL r
  | [] => rfl
  | c :: r => by
    rw [List.dropWhile_cons]
    split
    · rename_i h
      rw [rest_trim r]
      unfold restL
      rw [skip_blk h, List.drop_succ_cons]
    · rfl
theorem trim_head {r : Bs} {c : UInt8} {u : Bs} (h : r.dropWhile (blk3.contains ·) = c :: u) : blk3.contains c = false := by
  induction r with
  | nil => cases h
  | cons d r ih =>
    rw [List.dropWhile_cons] at h
    split at h
    · exact ih h
    · rename_i hd
      cases h
      simpa using hd
theorem rest_stop {r t : Bs} (h : r.dropWhile (blk3.contains ·) = t) (h2 : [47, 47].isPrefixOf t = false) : restL t = t := by
  cases t with
  | nil => rfl
  | cons c u =>
    have hc := trim_head h
    have hc' : (c == 32 || c == 9 || c == 10) = false := by simpa [blk3, Bool.or_assoc] using hc
    have hs : skipL false (c :: u) = 0 := by
      show (if c == 32 || c == 9 || c == 10 then skipL false u + 1 else if c == 47 && u.head? == some 47 then skipL true u + 1 else 0) = 0
      rw [if_neg (by simp [hc']), if_neg]
      intro h47
      cases u with
      | nil => simp at h47
      | cons d u =>
        simp at h47
        simp [List.isPrefixOf, h47.1, h47.2] at h2
    unfold restL
    rw [hs, List.drop_zero]
/-- What is behind the line's end. -/
def aft : Bs → Bs
  | [] => []
  | c :: r => if c == 10 then r else aft r
theorem aft_le : ∀ r : Bs, (aft r).length ≤ r.length
  | [] => Nat.le_refl _
  | c :: r => by
    unfold aft
    have := aft_le r
    split <;> simp <;> omega
theorem rest_true : ∀ r : Bs, r.drop (skipL true r) = restL (aft r)
  | [] => rfl
  | c :: r => by
    show (c :: r).drop (if c == 10 then skipL false r + 1 else skipL true r + 1) = restL (if c == 10 then r else aft r)
    split
    · rfl
    · rw [List.drop_succ_cons]; exact rest_true r
theorem rest_cm {t : Bs} (h : [47, 47].isPrefixOf t = true) : restL t = restL (aft t) ∧ (aft t).length < t.length := by
  match t, h with
  | [], h => simp at h
  | [a], h => simp [List.isPrefixOf] at h
  | a :: b :: u, h =>
    simp [List.isPrefixOf] at h
    obtain ⟨rfl, rfl⟩ := h
    refine ⟨?_, ?_⟩
    · show (47 :: 47 :: u).drop (skipL true (47 :: u) + 1) = _
      rw [List.drop_succ_cons]; exact rest_true (47 :: u)
    · have := aft_le u
      show (aft u).length < _
      simp; omega
theorem cut_aft : ∀ r : Bs, (Lib.cut r [10]).2.1 = aft r := fun r => by
  have key : ∀ r : Bs, (Lib.index r [10] = -1 ∧ aft r = []) ∨ ∃ i : Nat, Lib.index r [10] = i ∧ aft r = r.drop (i + 1) := by
    intro r
    induction r with
    | nil => exact .inl ⟨rfl, rfl⟩
    | cons c r ih =>
      have e : Lib.index (c :: r) [10] = if ([10] : Bs).isPrefixOf (c :: r) then 0 else if Lib.index r [10] == -1 then -1 else Lib.index r [10] + 1 := rfl
      by_cases hc : c = 10
      · subst hc; exact .inr ⟨0, by rw [e]; simp [List.isPrefixOf], rfl⟩
      · have h1 : ([10] : Bs).isPrefixOf (c :: r) = false := by simp [List.isPrefixOf]; exact fun h => hc h.symm
        have h2 : aft (c :: r) = aft r := by show (if c == 10 then r else aft r) = _; rw [if_neg (by simpa using hc)]
        rw [e, h1, h2]
        rcases ih with ⟨i1, i2⟩ | ⟨i, i1, i2⟩
        · exact .inl ⟨by rw [i1]; rfl, i2⟩
        · refine .inr ⟨i + 1, ?_, by rw [i2, List.drop_succ_cons]⟩
          rw [i1, if_neg (by decide), if_neg (by rw [beq_iff_eq]; omega)]
          push_cast; rfl
  unfold Lib.cut
  rcases key r with ⟨h1, h2⟩ | ⟨i, h1, h2⟩
  · rw [h1, if_neg (by omega), h2]
  · rw [h1, if_pos (by omega), h2]; simp
theorem rest_le (r : Bs) : (restL r).length ≤ r.length := by unfold restL; rw [List.length_drop]; omega
/-- All signs, the longest ahead. -/
def signsL : List Bs := [[60, 60, 60], [60, 60], [62, 62], [46, 46], [61], [59], [44], [40], [41], [123], [125], [43], [45], [38], [124], [94], [126]]
def tokS (c : UInt8) (r : Bs) : Option (Nat × Nat) := (signsL.find? fun x => x.isPrefixOf (c :: r)).map fun x => (4, x.length)
theorem tok_sign {c : UInt8} {r : Bs} (hl : letB c = false) (hn : numB c = false) : tokC c r = tokS c r := by
  unfold tokC
  rw [if_neg (by simp [hl]), if_neg (by simp [hn])]
  unfold tokS signsL
  by_cases h60 : c = 60
  · subst h60
    match r with
    | [] => decide
    | [a] =>
      by_cases ha : a = 60
      · subst ha; decide
      · have ha' : ((60 : UInt8) == a) = false := beq_eq_false_iff_ne.2 (Ne.symm ha)
        simp [signs2, signs1, List.isPrefixOf, List.find?, ha, ha']
    | a :: b :: r =>
      by_cases ha : a = 60
      · subst ha
        by_cases hb : b = 60
        · subst hb; simp [List.isPrefixOf, List.find?]
        · have hb' : ((60 : UInt8) == b) = false := beq_eq_false_iff_ne.2 (Ne.symm hb)
          simp [signs2, List.isPrefixOf, List.find?, hb, hb']
      · have ha' : ((60 : UInt8) == a) = false := beq_eq_false_iff_ne.2 (Ne.symm ha)
        simp [signs2, signs1, List.isPrefixOf, List.find?, ha, ha']
  · have h60' : ((60 : UInt8) == c) = false := beq_eq_false_iff_ne.2 (Ne.symm h60)
    rw [if_neg (by simp [h60])]
    have g : ∀ d : UInt8, d ≠ 60 → ((c = d ∧ r.head? = some d) → ((c :: r).take 2 = [d, d])) := fun d _ ⟨h1, h2⟩ => by
      subst h1
      cases r with
      | nil => simp at h2
      | cons a r => simp at h2; simp [h2]
    by_cases h62 : c = 62
    · subst h62
      match r with
      | [] => decide
      | a :: r =>
        by_cases ha : a = 62
        · subst ha; simp [signs2, List.isPrefixOf, List.find?]
        · have ha' : ((62 : UInt8) == a) = false := beq_eq_false_iff_ne.2 (Ne.symm ha)
          simp [signs2, signs1, List.isPrefixOf, List.find?, ha, ha']
    · have h62' : ((62 : UInt8) == c) = false := beq_eq_false_iff_ne.2 (Ne.symm h62)
      by_cases h46 : c = 46
      · subst h46
        match r with
        | [] => decide
        | a :: r =>
          by_cases ha : a = 46
          · subst ha; simp [signs2, List.isPrefixOf, List.find?]
          · have ha' : ((46 : UInt8) == a) = false := beq_eq_false_iff_ne.2 (Ne.symm ha)
            simp [signs2, signs1, List.isPrefixOf, List.find?, ha, ha']
      · have h46' : ((46 : UInt8) == c) = false := beq_eq_false_iff_ne.2 (Ne.symm h46)
        rw [if_neg (by cases r <;> simp [signs2, h60, h62, h46])]
        by_cases hs : c ∈ signs1
        · rw [if_pos hs]
          simp only [signs1, List.mem_cons, List.not_mem_nil, or_false] at hs
          rcases hs with rfl | rfl | rfl | rfl | rfl | rfl | rfl | rfl | rfl | rfl | rfl | rfl | rfl <;> simp [List.isPrefixOf, List.find?]
        · rw [if_neg hs]
          have hs' : ∀ d ∈ signs1, (d == c) = false := fun d hd => beq_eq_false_iff_ne.2 fun e => hs (e ▸ hd)
          simp only [signs1, List.mem_cons, List.not_mem_nil, or_false, forall_eq_or_imp, forall_eq] at hs'
          obtain ⟨s1, s2, s3, s4, s5, s6, s7, s8, s9, s10, s11, s12, s13⟩ := hs'
          simp [List.isPrefixOf, List.find?, h60', h62', h46', s1, s2, s3, s4, s5, s6, s7, s8, s9, s10, s11, s12, s13]
/-- The first of a list of which something holds. -/
theorem find_first {α : Type} (p : α → Bool) : ∀ (q : List α) (x : α) (l r : List α), l = q ++ x :: r → (∀ y ∈ q, p y = false) → p x = true → l.find? p = some x
  | [], x, l, r, h, _, hx => by subst h; simp [hx]
  | y :: q, x, l, r, h, hq, hx => by
    subst h
    rw [List.cons_append, List.find?_cons, hq y (List.mem_cons_self ..)]
    exact find_first p q x _ r rfl (fun z hz => hq z (List.mem_cons_of_mem _ hz)) hx
theorem find_not {α : Type} (p : α → Bool) (l : List α) (h : ∀ y ∈ l, p y = false) : l.find? p = none := by
  rw [List.find?_eq_none]; intro y hy; rw [h y hy]; decide
theorem sgn_take {c : UInt8} {r x : Bs} (hx : x.isPrefixOf (c :: r) = true) : (c :: r).take x.length = x := by
  obtain ⟨t, ht⟩ := List.isPrefixOf_iff_prefix.1 hx
  rw [← ht]; simp
/-- What the iterator hands over: a token and an error. -/
def goI : Nat → Bs → Nat → List (Tk × Nat)
  | 0, _, _ => []
  | f + 1, bs, i =>
    match bs with
    | [] => [(⟨0, [], i⟩, 0)]
    | c :: r =>
      match tokC c r with
      | none => [(⟨0, [], i⟩, 100)]
      | some (k, m) => (⟨k, (c :: r).take m, i⟩, 0) :: goI f (restL ((c :: r).drop m)) (i + m + skipL false ((c :: r).drop m))
theorem goI_nil (f i : Nat) : goI (f + 1) [] i = [(⟨0, [], i⟩, 0)] := rfl
theorem goI_none {f i : Nat} {c : UInt8} {r : Bs} (h : tokC c r = none) : goI (f + 1) (c :: r) i = [(⟨0, [], i⟩, 100)] := by
  show (match tokC c r with | none => _ | some (k, m) => _) = _
  rw [h]
theorem goI_some {f i : Nat} {c : UInt8} {r : Bs} {k m : Nat} (h : tokC c r = some (k, m)) : goI (f + 1) (c :: r) i = (⟨k, (c :: r).take m, i⟩, 0) :: goI f (restL ((c :: r).drop m)) (i + m + skipL false ((c :: r).drop m)) := by
  show (match tokC c r with | none => _ | some (k, m) => _) = _
  rw [h]
theorem goL_none {f i n : Nat} {c : UInt8} {r : Bs} (h : tokC c r = none) : goL (f + 1) (c :: r) i n = ⟨[], i, 100⟩ := by
  show (match tokC c r with | none => _ | some (k, m) => _) = _
  rw [h]
theorem goL_some {f i n : Nat} {c : UInt8} {r : Bs} {k m : Nat} (h : tokC c r = some (k, m)) : goL (f + 1) (c :: r) i n = if n = 4000 then ⟨[], i, 150⟩ else Wd.cons ⟨k, (c :: r).take m, i⟩ (goL f (restL ((c :: r).drop m)) (i + m + skipL false ((c :: r).drop m)) (n + 1)) := by
  show (match tokC c r with | none => _ | some (k, m) => _) = _
  rw [h]; rfl
theorem rest_len {c : UInt8} {r : Bs} {k m f : Nat} (h : tokC c r = some (k, m)) (hf : (c :: r).length < f + 1) : (restL ((c :: r).drop m)).length < f := by
  have hm := tok_len h
  have := rest_le ((c :: r).drop m)
  rw [List.length_drop] at this
  omega
/-- All came, none with an error. -/
theorem goI_all : ∀ (f : Nat) (bs : Bs) (i n : Nat), bs.length < f → (∀ x ∈ goI f bs i, x.2 = 0) → n + (goI f bs i).length ≤ 4000 → goL f bs i n = ⟨(goI f bs i).map (·.1), 0, 0⟩
  | 0, bs, i, n, hf, _, _ => by omega
  | f + 1, [], i, n, hf, h, hn => by
    have hn' : n ≠ 4000 := by rw [goI_nil] at hn; simp at hn; omega
    show (if n = 4000 then (⟨[], i, 150⟩ : Wd) else ⟨[⟨0, [], i⟩], 0, 0⟩) = _
    rw [if_neg hn']; rfl
  | f + 1, c :: r, i, n, hf, h, hn => by
    rcases ht : tokC c r with _ | ⟨k, m⟩
    · rw [goI_none ht] at h
      have := h _ (List.mem_cons_self ..)
      exact absurd this (by show ¬ (100 : Nat) = 0; decide)
    · rw [goI_some ht] at h hn ⊢
      rw [List.length_cons] at hn
      rw [goL_some ht, if_neg (by omega), goI_all f _ _ (n + 1) (rest_len ht hf) (fun x hx => h x (List.mem_cons_of_mem _ hx)) (by omega)]
      rfl
theorem cons_er {t : Tk} {w : Wd} (h : w.er ≠ 0) : Wd.cons t w = w := by unfold Wd.cons; rw [if_neg h]
/-- One came with an error, or one too many. -/
theorem goI_err : ∀ (f : Nat) (bs : Bs) (i n : Nat) (q : List (Tk × Nat)) (x : Tk × Nat) (l : List (Tk × Nat)), bs.length < f → goI f bs i = q ++ x :: l → (∀ y ∈ q, y.2 = 0) → n + q.length ≤ 4000 →
    (x.2 ≠ 0 → goL f bs i n = ⟨[], x.1.at_, x.2⟩) ∧ (x.2 = 0 → n + q.length = 4000 → goL f bs i n = ⟨[], x.1.at_, 150⟩)
  | 0, bs, i, n, q, x, l, hf, _, _, _ => by omega
  | f + 1, [], i, n, q, x, l, hf, h, hq, hn => by
    rw [goI_nil] at h
    cases q with
    | cons y q => simp at h
    | nil =>
      simp at h
      obtain ⟨rfl, rfl⟩ := h
      refine ⟨fun h => absurd rfl h, fun _ hn' => ?_⟩
      show (if n = 4000 then (⟨[], i, 150⟩ : Wd) else ⟨[⟨0, [], i⟩], 0, 0⟩) = _
      rw [if_pos (by simpa using hn')]
  | f + 1, c :: r, i, n, q, x, l, hf, h, hq, hn => by
    rcases ht : tokC c r with _ | ⟨k, m⟩
    · rw [goI_none ht] at h
      cases q with
      | cons y q => simp at h
      | nil =>
        simp at h
        obtain ⟨rfl, rfl⟩ := h
        exact ⟨fun _ => goL_none ht, fun h => absurd h (by show ¬ (100 : Nat) = 0; decide)⟩
    · rw [goI_some ht] at h
      cases q with
      | nil =>
        simp only [List.nil_append, List.cons.injEq] at h
        obtain ⟨rfl, h2⟩ := h
        refine ⟨fun h => absurd rfl h, fun _ hn' => ?_⟩
        rw [goL_some ht, if_pos (by simpa using hn')]
      | cons y q =>
        simp only [List.cons_append, List.cons.injEq] at h
        rw [List.length_cons] at hn
        have ih := goI_err f _ _ (n + 1) q x l (rest_len ht hf) h.2 (fun z hz => hq z (List.mem_cons_of_mem _ hz)) (by omega)
        rw [goL_some ht, if_neg (by omega), List.length_cons]
        refine ⟨fun hx => ?_, fun hx hn' => ?_⟩
        · rw [ih.1 hx]; exact cons_er hx
        · rw [ih.2 hx (by omega)]; exact cons_er (by show ¬ (150 : Nat) = 0; decide)
/-- The items of a text. -/
def itemsL (s : Bs) : List (Tk × Nat) := goI (s.length + 1) (restL s) (skipL false s)
theorem goI_pos : ∀ (f : Nat) (bs : Bs) (i : Nat), 0 < f → 0 < (goI f bs i).length
  | f + 1, [], i, _ => Nat.succ_pos _
  | f + 1, c :: r, i, _ => by
    rcases ht : tokC c r with _ | ⟨k, m⟩
    · rw [goI_none ht]; exact Nat.succ_pos _
    · rw [goI_some ht]; simp
theorem words_all {s : Bs} (hs : s.length ≤ 20000) (h : ∀ x ∈ itemsL s, x.2 = 0) (hn : (itemsL s).length ≤ 4000) : wordsL s = ⟨(itemsL s).map (·.1), 0, 0⟩ := by
  unfold wordsL
  rw [if_neg (by omega)]
  show goL (s.length + 1) (restL s) (skipL false s) 0 = _
  unfold itemsL at h hn ⊢
  exact goI_all _ _ _ 0 (by have := rest_le s; omega) h (by omega)
theorem words_bad {s : Bs} (hs : s.length ≤ 20000) {q : List (Tk × Nat)} {x : Tk × Nat} (h : q ++ [x] <+: itemsL s) (hq : ∀ y ∈ q, y.2 = 0) (hn : q.length ≤ 4000) :
    (x.2 ≠ 0 → wordsL s = ⟨[], x.1.at_, x.2⟩) ∧ (x.2 = 0 → q.length = 4000 → wordsL s = ⟨[], x.1.at_, 150⟩) := by
  obtain ⟨l, hl⟩ := h
  have e : wordsL s = goL (s.length + 1) (restL s) (skipL false s) 0 := by unfold wordsL; rw [if_neg (by omega)]; rfl
  have := goI_err (s.length + 1) (restL s) (skipL false s) 0 q x l (by have := rest_le s; omega) (by show itemsL s = _; rw [← hl]; simp) hq (by omega)
  rw [e]
  rw [Nat.zero_add] at this
  exact this
/-- A text's pieces between the bytes c. -/
def splitB (c : UInt8) : Bs → List Bs
  | [] => [[]]
  | d :: r => if d == c then [] :: splitB c r else match splitB c r with | [] => [[d]] | x :: l => (d :: x) :: l
def signsT : Bs := [60, 60, 60, 32, 60, 60, 32, 62, 62, 32, 46, 46, 32, 61, 32, 59, 32, 44, 32, 40, 32, 41, 32, 123, 32, 125, 32, 43, 32, 45, 32, 38, 32, 124, 32, 94, 32, 126]
theorem split_signs : splitB 32 signsT = signsL := by decide
theorem split_ne (c : UInt8) (r : Bs) : splitB c r ≠ [] := by
  cases r with
  | nil => exact List.cons_ne_nil _ _
  | cons d r =>
    unfold splitB
    split
    · exact List.cons_ne_nil _ _
    · split <;> exact List.cons_ne_nil _ _
theorem split_at (c : UInt8) : ∀ (r : Bs), (Lib.indexByte r c = -1 ∧ splitB c r = [r]) ∨ ∃ i : Nat, Lib.indexByte r c = i ∧ i < r.length ∧ splitB c r = r.take i :: splitB c (r.drop (i + 1))
  | [] => .inl ⟨rfl, rfl⟩
  | d :: r => by
    have e : Lib.indexByte (d :: r) c = if d == c then 0 else if Lib.indexByte r c == -1 then -1 else Lib.indexByte r c + 1 := rfl
    by_cases hd : (d == c) = true
    · refine .inr ⟨0, by rw [e, if_pos hd]; rfl, by simp, ?_⟩
      conv => lhs; unfold splitB
      rw [if_pos hd]; rfl
    · rcases split_at c r with ⟨h1, h2⟩ | ⟨i, h1, h2, h3⟩
      · refine .inl ⟨by rw [e, if_neg hd, h1]; rfl, ?_⟩
        unfold splitB
        rw [if_neg hd, h2]
      · refine .inr ⟨i + 1, ?_, by simp; omega, ?_⟩
        · rw [e, if_neg hd, h1, if_neg (by rw [beq_iff_eq]; omega)]; push_cast; rfl
        · conv => lhs; unfold splitB
          rw [if_neg hd, h3]
          rfl
end Go.Proofs.YtkdpndoollbggaaDoor.Lx
