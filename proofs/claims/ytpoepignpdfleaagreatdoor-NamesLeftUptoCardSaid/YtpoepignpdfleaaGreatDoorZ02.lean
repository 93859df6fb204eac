/- DERIVED. LxSpec, LxPl, PaLx, PaLy, PaLz, PaSpec in one text. By an AI agent. -/
import Derived.Lib.IndexMore
/- DERIVED. The words of programs, plainly: a text's tokens, and that what is joined is the same tokens again. Of no program. By an AI agent. -/
namespace Go.Proofs.YtpoepignpdfleaaGreatDoor.Lx
abbrev Bs := List UInt8
def letB (c : UInt8) : Bool := (65 ≤ c.toNat && c.toNat ≤ 90) || (97 ≤ c.toNat && c.toNat ≤ 122)
def numB (c : UInt8) : Bool := 48 ≤ c.toNat && c.toNat ≤ 57
/-- What may go on in a word, or in a number. -/
def onB (word : Bool) (c : UInt8) : Bool := letB c || numB c || (word && c == 95)
def runL (w : Bool) : Bs → Nat
  | [] => 0
  | c :: r => if onB w c then runL w r + 1 else 0
/-- How many bytes are passed over: in a comment, or not. -/
def skipL : Bool → Bs → Nat
  | _, [] => 0
  | true, c :: r => if c == 10 then skipL false r + 1 else skipL true r + 1
  | false, c :: r => if c == 32 || c == 9 || c == 10 then skipL false r + 1 else if c == 47 && r.head? == some 47 then skipL true r + 1 else 0
/-- The words of the language. -/
def words7 : List Bs := [[115, 101, 99, 114, 101, 116], [112, 117, 98, 108, 105, 99], [111, 117, 116], [115, 104, 111, 119], [102, 111, 114], [105, 110], [102, 110]]
def wordB (s : Bs) : Bool := words7.contains s
def signs2 : List Bs := [[60, 60], [62, 62], [46, 46]]
def signs1 : Bs := [61, 59, 44, 40, 41, 123, 125, 43, 45, 38, 124, 94, 126]
/-- A token's kind and length; none: nothing begins so. -/
def tokC (c : UInt8) (r : Bs) : Option (Nat × Nat) :=
  if letB c = true then
    if wordB (c :: r.take (runL true r)) = true then some (3, runL true r + 1) else if 32 < runL true r + 1 then none else some (1, runL true r + 1)
  else if numB c = true then some (2, runL false r + 1)
  else if (c :: r).take 3 = [60, 60, 60] then some (4, 3)
  else if (c :: r).take 2 ∈ signs2 then some (4, 2)
  else if c ∈ signs1 then some (4, 1)
  else none
structure Tk where
  k : Nat
  s : Bs
  at_ : Nat
  deriving DecidableEq
/-- Tokens, a place, an error. -/
structure Wd where
  l : List Tk
  at_ : Nat
  er : Nat
def Wd.cons (t : Tk) (w : Wd) : Wd := if w.er = 0 then ⟨t :: w.l, w.at_, w.er⟩ else w
/-- From a token's place on: bs is what is left from place i on, n tokens are there. -/
def goL : Nat → Bs → Nat → Nat → Wd
  | 0, _, _, _ => ⟨[], 0, 0⟩
  | f + 1, bs, i, n =>
    match bs with
    | [] => if n = 4000 then ⟨[], i, 150⟩ else ⟨[⟨0, [], i⟩], 0, 0⟩
    | c :: r =>
      match tokC c r with
      | none => ⟨[], i, 100⟩
      | some (k, m) => if n = 4000 then ⟨[], i, 150⟩ else
        Wd.cons ⟨k, (c :: r).take m, i⟩ (goL f (((c :: r).drop m).drop (skipL false ((c :: r).drop m))) (i + m + skipL false ((c :: r).drop m)) (n + 1))
def wordsL (s : Bs) : Wd := if 20000 < s.length then ⟨[], 0, 150⟩ else goL (s.length + 1) (s.drop (skipL false s)) (skipL false s) 0
/-- Texts with a blank between any two. -/
def joinL : List Bs → Bs
  | [] => []
  | [t] => t
  | t :: u :: l => t ++ 32 :: joinL (u :: l)
theorem runL_le (w : Bool) : ∀ r : Bs, runL w r ≤ r.length
  | [] => Nat.le_refl _
  | c :: r => by
    unfold runL
    split
    · have := runL_le w r; simp; omega
    · exact Nat.zero_le _
theorem skipL_le : ∀ (q : Bool) (r : Bs), skipL q r ≤ r.length
  | true, [] => Nat.le_refl _
  | false, [] => Nat.le_refl _
  | true, c :: r => by
    unfold skipL
    have h1 := skipL_le false r; have h2 := skipL_le true r
    split <;> simp <;> omega
  | false, c :: r => by
    unfold skipL
    have h1 := skipL_le false r; have h2 := skipL_le true r
    split
    · simp; omega
    · split
      · simp; omega
      · exact Nat.zero_le _
/-- A token's length. -/
theorem tok_len {c : UInt8} {r : Bs} {k m : Nat} (h : tokC c r = some (k, m)) : 1 ≤ m ∧ m ≤ (c :: r).length ∧ 1 ≤ k := by
  have ht := runL_le true r; have hf := runL_le false r
  unfold tokC at h
  split at h
  · split at h
    · cases h; simp; omega
    · split at h
      · cases h
      · cases h; simp; omega
  · split at h
    · cases h; simp; omega
    · split at h
      · rename_i h3
        cases h
        have h4 : ((c :: r).take 3).length = 3 := by rw [h3]; rfl
        rw [List.length_take] at h4
        omega
      · split at h
        · rename_i h3
          cases h
          have h4 : ((c :: r).take 2).length = 2 := by
            simp only [signs2, List.mem_cons, List.not_mem_nil, or_false] at h3
            rcases h3 with h3 | h3 | h3 <;> rw [h3] <;> rfl
          rw [List.length_take] at h4
          omega
        · split at h
          · cases h; simp
          · cases h
theorem runL_cons (w : Bool) (c : UInt8) (r : Bs) : runL w (c :: r) = if onB w c = true then runL w r + 1 else 0 := rfl
/-- What a run is made of, and that it ends at what does not go on. -/
theorem run_app (w : Bool) : ∀ (r u : Bs), (∀ c, u.head? = some c → onB w c = false) → runL w (r.take (runL w r) ++ u) = runL w r
  | [], u, h => by
    cases u with
    | nil => rfl
    | cons c u => rw [List.take_nil, List.nil_append, runL_cons, if_neg (by rw [h c rfl]; decide)]; rfl
  | c :: r, u, h => by
    by_cases hc : onB w c = true
    · rw [runL_cons, if_pos hc, List.take_succ_cons, List.cons_append, runL_cons, if_pos hc, run_app w r u h]
    · rw [runL_cons, if_neg hc, List.take_zero, List.nil_append]
      cases u with
      | nil => rfl
      | cons d u => rw [runL_cons, if_neg (by rw [h d rfl]; decide)]
/-- A token with a blank behind it is the same token. -/
theorem tok_app {c : UInt8} {r : Bs} {k m : Nat} (h : tokC c r = some (k, m)) (u : Bs) : tokC c (r.take (m - 1) ++ 32 :: u) = some (k, m) := by
  have hrun : ∀ w, runL w (r.take (runL w r) ++ 32 :: u) = runL w r := fun w => run_app w r (32 :: u) fun d hd => by
    cases hd; cases w <;> decide
  have htk : ∀ w, (r.take (runL w r) ++ 32 :: u).take (runL w r) = r.take (runL w r) := fun w => by
    have : (r.take (runL w r)).length = runL w r := by rw [List.length_take]; have := runL_le w r; omega
    rw [List.take_append_of_le_length (by omega), List.take_of_length_le (by omega)]
  unfold tokC at h
  split at h
  · rename_i hl
    split at h
    · rename_i hw
      cases h
      rw [Nat.add_sub_cancel]
      unfold tokC
      rw [if_pos hl, hrun, htk, if_pos hw]
    · rename_i hw
      split at h
      · cases h
      · rename_i h32
        cases h
        rw [Nat.add_sub_cancel]
        unfold tokC
        rw [if_pos hl, hrun, htk, if_neg hw, if_neg h32]
  · rename_i hl
    split at h
    · rename_i hn
      cases h
      rw [Nat.add_sub_cancel]
      unfold tokC
      rw [if_neg hl, if_pos hn, hrun]
    · rename_i hn
      split at h
      · rename_i h3
        cases h
        unfold tokC
        rw [if_neg hl, if_neg hn, if_pos]
        match r, h3 with
        | [], h3 => simp at h3
        | [a], h3 => simp at h3
        | a :: b :: r, h3 => simpa using h3
      · rename_i h3
        split at h
        · rename_i h2
          cases h
          unfold tokC
          rw [if_neg hl, if_neg hn]
          match r, h2 with
          | [], h2 => simp [signs2] at h2
          | a :: r, h2 =>
            rw [if_neg, if_pos]
            · simpa using h2
            · simp
        · rename_i h2
          split at h
          · rename_i h1
            cases h
            unfold tokC
            rw [if_neg hl, if_neg hn, if_neg, if_neg, if_pos h1]
            · simp [signs2]
            · simp
          · cases h
/-- No token begins with a blank, or as a comment does. -/
theorem tok_skip {c : UInt8} {r : Bs} {k m : Nat} (h : tokC c r = some (k, m)) (u : Bs) : skipL false (c :: u) = 0 := by
  have h1 : c ≠ 32 ∧ c ≠ 9 ∧ c ≠ 10 ∧ c ≠ 47 := by
    refine ⟨?_, ?_, ?_, ?_⟩ <;>
    · rintro rfl
      unfold tokC at h
      rw [if_neg (by decide), if_neg (by decide), if_neg (by simp), if_neg (by simp [signs2]), if_neg (by decide)] at h
      cases h
  unfold skipL
  simp [h1.1, h1.2.1, h1.2.2.1, h1.2.2.2]
theorem skip_blank (bs : Bs) : skipL false (32 :: bs) = skipL false bs + 1 := rfl
theorem drop_take {c : UInt8} {r u : Bs} {m : Nat} (h1 : 1 ≤ m) (h2 : m ≤ (c :: r).length) : (c :: (r.take (m - 1) ++ 32 :: u)).drop m = 32 :: u ∧ (c :: (r.take (m - 1) ++ 32 :: u)).take m = (c :: r).take m := by
  obtain ⟨m, rfl⟩ : ∃ n, m = n + 1 := ⟨m - 1, by omega⟩
  have hl : (r.take m).length = m := by rw [List.length_take]; simp at h2; omega
  refine ⟨?_, ?_⟩
  · rw [Nat.add_sub_cancel, List.drop_succ_cons, List.drop_append_of_le_length (by omega), List.drop_of_length_le (by omega), List.nil_append]
  · rw [Nat.add_sub_cancel, List.take_succ_cons, List.take_succ_cons, List.take_append_of_le_length (by omega), List.take_of_length_le (by omega)]
/-- A lexer without error: its tokens, one behind the other. -/
theorem go_ok : ∀ (f : Nat) (bs : Bs) (i n : Nat), bs.length < f → (goL f bs i n).er = 0 →
    (bs = [] ∧ n ≠ 4000 ∧ goL f bs i n = ⟨[⟨0, [], i⟩], 0, 0⟩) ∨
    ∃ c r k m, bs = c :: r ∧ tokC c r = some (k, m) ∧ n ≠ 4000 ∧ (goL (f - 1) (((c :: r).drop m).drop (skipL false ((c :: r).drop m))) (i + m + skipL false ((c :: r).drop m)) (n + 1)).er = 0 ∧
      goL f bs i n = ⟨⟨k, (c :: r).take m, i⟩ :: (goL (f - 1) (((c :: r).drop m).drop (skipL false ((c :: r).drop m))) (i + m + skipL false ((c :: r).drop m)) (n + 1)).l, (goL (f - 1) (((c :: r).drop m).drop (skipL false ((c :: r).drop m))) (i + m + skipL false ((c :: r).drop m)) (n + 1)).at_, 0⟩ ∧
      (((c :: r).drop m).drop (skipL false ((c :: r).drop m))).length < f - 1
  | 0, bs, i, n, hf, _ => by omega
  | f + 1, [], i, n, hf, h => by
    by_cases hn : n = 4000
    · subst hn; exact absurd h (by show ¬ (150 : Nat) = 0; decide)
    · refine .inl ⟨rfl, hn, ?_⟩
      show (if n = 4000 then _ else _) = _
      rw [if_neg hn]
  | f + 1, c :: r, i, n, hf, h => by
    have e : goL (f + 1) (c :: r) i n = match tokC c r with
      | none => ⟨[], i, 100⟩
      | some (k, m) => if n = 4000 then ⟨[], i, 150⟩ else
        Wd.cons ⟨k, (c :: r).take m, i⟩ (goL f (((c :: r).drop m).drop (skipL false ((c :: r).drop m))) (i + m + skipL false ((c :: r).drop m)) (n + 1)) := rfl
    rcases ht : tokC c r with _ | ⟨k, m⟩
    · rw [e, ht] at h; exact absurd h (by show ¬ (100 : Nat) = 0; decide)
    · rw [e, ht] at h
      simp only at h
      by_cases hn : n = 4000
      · rw [if_pos hn] at h; exact absurd h (by show ¬ (150 : Nat) = 0; decide)
      · rw [if_neg hn] at h
        have hw : (goL f (((c :: r).drop m).drop (skipL false ((c :: r).drop m))) (i + m + skipL false ((c :: r).drop m)) (n + 1)).er = 0 := by
          unfold Wd.cons at h
          split at h
          · assumption
          · exact h
        have hm := tok_len ht
        refine .inr ⟨c, r, k, m, rfl, ht, hn, hw, ?_, ?_⟩
        · rw [e, ht]
          simp only
          rw [if_neg hn]
          unfold Wd.cons
          rw [if_pos hw]
          exact congrArg (Wd.mk _ _) hw
        · rw [List.length_drop, List.length_drop]; omega
def Tk.same (a b : Tk) : Prop := a.k = b.k ∧ a.s = b.s
/-- Kinds and texts alone. -/
def strip (l : List Tk) : List (Nat × Bs) := l.map fun t => (t.k, t.s)
theorem go_first : ∀ (f : Nat) (bs : Bs) (i n : Nat), bs.length < f → (goL f bs i n).er = 0 → ∃ t l, (goL f bs i n).l = t :: l ∧ (bs = [] → t = ⟨0, [], i⟩ ∧ l = []) ∧ (bs ≠ [] → l ≠ [] ∧ ∃ c r k m, bs = c :: r ∧ tokC c r = some (k, m) ∧ t = ⟨k, (c :: r).take m, i⟩) := fun f bs i n hf h => by
  rcases go_ok f bs i n hf h with ⟨rfl, hn, e⟩ | ⟨c, r, k, m, rfl, ht, hn, hw, e, hl⟩
  · exact ⟨_, _, by rw [e], fun _ => ⟨rfl, rfl⟩, fun h => absurd rfl h⟩
  · refine ⟨_, _, by rw [e], fun h => by (cases h), fun _ => ⟨fun hl0 => ?_, c, r, k, m, rfl, ht, rfl⟩⟩
    rcases go_ok (f - 1) _ _ _ hl hw with ⟨_, _, e2⟩ | ⟨_, _, _, _, _, _, _, _, e2, _⟩
    · rw [e2] at hl0; cases hl0
    · rw [e2] at hl0; cases hl0
theorem join_cons {t : Tk} {l : List Tk} (h : l ≠ []) : joinL ((t :: l).map Tk.s) = t.s ++ 32 :: joinL (l.map Tk.s) := by
  cases l with
  | nil => exact absurd rfl h
  | cons u l => rfl
/-- What is joined has the same tokens. -/
theorem go_join : ∀ (f : Nat) (bs : Bs) (i n : Nat), bs.length < f → (goL f bs i n).er = 0 → ∀ (f' j : Nat), (joinL ((goL f bs i n).l.map Tk.s)).length < f' →
    skipL false (joinL ((goL f bs i n).l.map Tk.s)) = 0 ∧ (goL f' (joinL ((goL f bs i n).l.map Tk.s)) j n).er = 0 ∧ strip (goL f' (joinL ((goL f bs i n).l.map Tk.s)) j n).l = strip (goL f bs i n).l := by
  intro f
  induction f with
  | zero => intro bs i n hf; omega
  | succ f ih =>
    intro bs i n hf h f' j hf'
    rcases go_ok (f + 1) bs i n hf h with ⟨rfl, hn, e⟩ | ⟨c, r, k, m, rfl, ht, hn, hw, e, hl⟩
    · rw [e] at hf' ⊢
      obtain ⟨f', rfl⟩ : ∃ g, f' = g + 1 := ⟨f' - 1, by omega⟩
      refine ⟨rfl, ?_, ?_⟩
      · show (if n = 4000 then (⟨[], j, 150⟩ : Wd) else ⟨[⟨0, [], j⟩], 0, 0⟩).er = 0
        rw [if_neg hn]
      · show strip (if n = 4000 then (⟨[], j, 150⟩ : Wd) else ⟨[⟨0, [], j⟩], 0, 0⟩).l = _
        rw [if_neg hn]; rfl
    · simp only [Nat.add_sub_cancel] at hw e hl
      generalize hB : ((c :: r).drop m).drop (skipL false ((c :: r).drop m)) = B at *
      generalize i + m + skipL false ((c :: r).drop m) = i2 at *
      have hm := tok_len ht
      obtain ⟨t1, l1, hl1, _, _⟩ := go_first f B i2 (n + 1) hl hw
      have hne : (goL f B i2 (n + 1)).l ≠ [] := by rw [hl1]; exact List.cons_ne_nil _ _
      rw [e] at hf' ⊢
      rw [join_cons (t := ⟨k, (c :: r).take m, i⟩) hne] at hf' ⊢
      generalize hJ : joinL ((goL f B i2 (n + 1)).l.map Tk.s) = J at *
      obtain ⟨m, rfl⟩ : ∃ q, m = q + 1 := ⟨m - 1, by omega⟩
      simp only [List.take_succ_cons, List.cons_append] at hf' ⊢
      have htk := tok_app ht J
      have hdt := drop_take (u := J) hm.1 hm.2.1
      simp only [Nat.add_sub_cancel] at htk hdt
      obtain ⟨f', rfl⟩ : ∃ g, f' = g + 1 := ⟨f' - 1, by omega⟩
      have hsk : skipL false J = 0 := by
        have := (ih B i2 (n + 1) hl hw (J.length + 1) 0 (by rw [hJ]; omega)).1
        rw [hJ] at this; exact this
      have hlen : J.length < f' := by simp at hf'; omega
      have hih := ih B i2 (n + 1) hl hw f' (j + (m + 1) + 1) (by rw [hJ]; exact hlen)
      rw [hJ] at hih
      have e2 : goL (f' + 1) (c :: (r.take m ++ 32 :: J)) j n = Wd.cons ⟨k, c :: r.take m, j⟩ (goL f' J (j + (m + 1) + 1) (n + 1)) := by
        show (match tokC c (r.take m ++ 32 :: J) with
          | none => (⟨[], j, 100⟩ : Wd)
          | some (k, m') => if n = 4000 then ⟨[], j, 150⟩ else Wd.cons ⟨k, (c :: (r.take m ++ 32 :: J)).take m', j⟩ (goL f' (((c :: (r.take m ++ 32 :: J)).drop m').drop (skipL false ((c :: (r.take m ++ 32 :: J)).drop m'))) (j + m' + skipL false ((c :: (r.take m ++ 32 :: J)).drop m')) (n + 1))) = _
        rw [htk]
        simp only
        rw [if_neg hn, hdt.1, hdt.2, skip_blank, hsk]
        rfl
      refine ⟨tok_skip ht _, ?_, ?_⟩
      · rw [e2]; unfold Wd.cons; rw [if_pos hih.2.1]; exact hih.2.1
      · rw [e2]; unfold Wd.cons; rw [if_pos hih.2.1]
        show (k, c :: r.take m) :: strip (goL f' J (j + (m + 1) + 1) (n + 1)).l = (k, c :: r.take m) :: strip (goL f B i2 (n + 1)).l
        rw [hih.2.2]
/-- Words of what is joined are the same, but for their places, if there are no more bytes than may be. -/
theorem words_join (s : Bs) (h : (wordsL s).er = 0) : (joinL ((wordsL s).l.map Tk.s)).length ≤ 20000 → (wordsL (joinL ((wordsL s).l.map Tk.s))).er = 0 ∧ strip (wordsL (joinL ((wordsL s).l.map Tk.s))).l = strip (wordsL s).l := by
  have e : wordsL s = goL (s.length + 1) (s.drop (skipL false s)) (skipL false s) 0 := by
    unfold wordsL at h ⊢
    split at h
    · exact absurd h (by show ¬ (150 : Nat) = 0; decide)
    · rename_i hs; rw [if_neg hs]
  rw [e] at h ⊢
  intro hl
  have hj := go_join (s.length + 1) (s.drop (skipL false s)) (skipL false s) 0 (by rw [List.length_drop]; omega) h
  generalize joinL ((goL (s.length + 1) (s.drop (skipL false s)) (skipL false s) 0).l.map Tk.s) = J at *
  have h0 := (hj (J.length + 1) 0 (by omega)).1
  unfold wordsL
  rw [if_neg (by omega), h0, List.drop_zero]
  exact (hj (J.length + 1) 0 (by omega)).2
/-- Where each token stands. -/
theorem go_order (s : Bs) : ∀ (f : Nat) (bs : Bs) (i n : Nat), bs.length < f → (goL f bs i n).er = 0 → s.drop i = bs → i ≤ s.length →
    ∀ (j : Nat) (t : Tk), (goL f bs i n).l[j]? = some t → i ≤ t.at_ ∧ t.at_ + t.s.length ≤ s.length ∧ (s.drop t.at_).take t.s.length = t.s ∧ (t.k = 0 ↔ j + 1 = (goL f bs i n).l.length) ∧ (∀ u, 0 < j → (goL f bs i n).l[j - 1]? = some u → u.at_ + u.s.length ≤ t.at_) := by
  intro f
  induction f with
  | zero => intro bs i n hf; omega
  | succ f ih =>
    intro bs i n hf h hs hi j t hj
    rcases go_ok (f + 1) bs i n hf h with ⟨rfl, hn, e⟩ | ⟨c, r, k, m, rfl, ht, hn, hw, e, hl⟩
    · rw [e] at hj ⊢
      cases j with
      | succ j => simp at hj
      | zero =>
        have ht : t = ⟨0, [], i⟩ := by simpa using hj.symm
        subst ht
        exact ⟨Nat.le_refl _, by simpa using hi, rfl, by simp, fun u h0 => absurd h0 (by omega)⟩
    · simp only [Nat.add_sub_cancel] at hw e hl
      have hm := tok_len ht
      have hlen : (s.drop i).length = (c :: r).length := by rw [hs]
      have hsk := skipL_le false ((c :: r).drop m)
      have hdm : ((c :: r).drop m).length = (c :: r).length - m := List.length_drop
      have hB : s.drop (i + m + skipL false ((c :: r).drop m)) = ((c :: r).drop m).drop (skipL false ((c :: r).drop m)) := by
        rw [← List.drop_drop, ← List.drop_drop, hs]
      have hi2 : i + m + skipL false ((c :: r).drop m) ≤ s.length := by rw [List.length_drop] at hlen; omega
      have him : i + m ≤ i + m + skipL false ((c :: r).drop m) := by omega
      obtain ⟨t1, l1, hl1, h0, h1⟩ := go_first f _ _ (n + 1) hl hw
      have hih := ih _ _ (n + 1) hl hw hB hi2
      generalize ((c :: r).drop m).drop (skipL false ((c :: r).drop m)) = B at *
      generalize i + m + skipL false ((c :: r).drop m) = i2 at *
      have htl : ((c :: r).take m).length = m := by rw [List.length_take]; omega
      rw [e] at hj ⊢
      cases j with
      | zero =>
        have htt : t = ⟨k, (c :: r).take m, i⟩ := by simpa using hj.symm
        subst htt
        refine ⟨Nat.le_refl _, ?_, ?_, ?_, fun u h0 => absurd h0 (by omega)⟩
        · show i + ((c :: r).take m).length ≤ _
          rw [htl]; rw [List.length_drop] at hlen; omega
        · show (s.drop i).take ((c :: r).take m).length = _
          rw [htl, hs]
        · constructor
          · intro hk; exact absurd hk (by show ¬ k = 0; omega)
          · intro hx
            rw [List.length_cons, hl1, List.length_cons] at hx
            omega
      | succ j =>
        have hj2 : (goL f B i2 (n + 1)).l[j]? = some t := by simpa using hj
        obtain ⟨a1, a2, a3, a4, a5⟩ := hih j t hj2
        refine ⟨by omega, a2, a3, ?_, ?_⟩
        · rw [List.length_cons]
          constructor
          · intro hk; have := a4.1 hk; omega
          · intro hx; exact a4.2 (by omega)
        · intro u _ hu
          cases j with
          | zero =>
            have huu : u = ⟨k, (c :: r).take m, i⟩ := by simpa using hu.symm
            subst huu
            show i + ((c :: r).take m).length ≤ t.at_
            rw [htl]; omega
          | succ j => exact a5 u (by omega) (by simpa using hu)
theorem words_order (s : Bs) (h : (wordsL s).er = 0) : (wordsL s).l ≠ [] ∧ ∀ (j : Nat) (t : Tk), (wordsL s).l[j]? = some t → t.at_ + t.s.length ≤ s.length ∧ (s.drop t.at_).take t.s.length = t.s ∧ (t.k = 0 ↔ j + 1 = (wordsL s).l.length) ∧ (∀ u, 0 < j → (wordsL s).l[j - 1]? = some u → u.at_ + u.s.length ≤ t.at_) := by
  have e : wordsL s = goL (s.length + 1) (s.drop (skipL false s)) (skipL false s) 0 := by
    unfold wordsL at h ⊢
    split at h
    · exact absurd h (by show ¬ (150 : Nat) = 0; decide)
    · rename_i hs; rw [if_neg hs]
  rw [e] at h ⊢
  have hf : (s.drop (skipL false s)).length < s.length + 1 := by rw [List.length_drop]; omega
  refine ⟨?_, fun j t hj => (go_order s (s.length + 1) _ _ 0 hf h rfl (skipL_le false s) j t hj).2⟩
  obtain ⟨t1, l1, hl1, _, _⟩ := go_first (s.length + 1) _ _ 0 hf h
  rw [hl1]; exact List.cons_ne_nil _ _
/-- With an error there are no tokens. -/
theorem go_err : ∀ (f : Nat) (bs : Bs) (i n : Nat), (goL f bs i n).er ≠ 0 → (goL f bs i n).l = []
  | 0, _, _, _, h => absurd rfl h
  | f + 1, [], i, n, h => by
    by_cases hn : n = 4000
    · subst hn; rfl
    · exact absurd (show (if n = 4000 then (⟨[], i, 150⟩ : Wd) else ⟨[⟨0, [], i⟩], 0, 0⟩).er = 0 by rw [if_neg hn]) h
  | f + 1, c :: r, i, n, h => by
    have e : goL (f + 1) (c :: r) i n = match tokC c r with
      | none => ⟨[], i, 100⟩
      | some (k, m) => if n = 4000 then ⟨[], i, 150⟩ else
        Wd.cons ⟨k, (c :: r).take m, i⟩ (goL f (((c :: r).drop m).drop (skipL false ((c :: r).drop m))) (i + m + skipL false ((c :: r).drop m)) (n + 1)) := rfl
    rcases ht : tokC c r with _ | ⟨k, m⟩
    · rw [e, ht]
    · rw [e, ht] at h ⊢
      simp only at h ⊢
      by_cases hn : n = 4000
      · rw [if_pos hn]
      · rw [if_neg hn] at h ⊢
        unfold Wd.cons at h ⊢
        split at h
        · rename_i h0; exact absurd h0 h
        · rename_i h0; rw [if_neg h0]; exact go_err f _ _ _ h0
theorem words_err (s : Bs) (h : (wordsL s).er ≠ 0) : (wordsL s).l = [] := by
  unfold wordsL at h ⊢
  split at h
  · rename_i hs; rw [if_pos hs]
  · rename_i hs; rw [if_neg hs]; exact go_err _ _ _ _ h
theorem words_long (s : Bs) (h : 20000 < s.length) : wordsL s = ⟨[], 0, 150⟩ := by unfold wordsL; rw [if_pos h]
end Go.Proofs.YtpoepignpdfleaaGreatDoor.Lx
/- DERIVED. The words of programs, plainly: as the program takes them: what is left behind all that is passed over, the first token of a text by a list of signs, the list of what its iterator hands over. Of no program. By an AI agent. -/
namespace Go.Proofs.YtpoepignpdfleaaGreatDoor.Lx
/-- What is left behind all that is passed over. -/
def restL (r : Bs) : Bs := r.drop (skipL false r)
def blk3 : Bs := [32, 9, 10]
theorem skip_blk {c : UInt8} {r : Bs} (h : blk3.contains c = true) : skipL false (c :: r) = skipL false r + 1 := by
  have h' : (c == 32 || c == 9 || c == 10) = true := by simpa [blk3, Bool.or_assoc] using h
  show (if c == 32 || c == 9 || c == 10 then _ else _) = _
  rw [if_pos h']
theorem rest_trim : ∀ r : Bs, restL (r.dropWhile (blk3.contains ·)) = restL r
  | [] => rfl
  | c :: r => by
    rw [List.dropWhile_cons]
    split
    · rename_i h
      rw [rest_trim r]
      unfold restL
      rw [skip_blk h, List.drop_succ_cons]
    · rfl
theorem trim_head {r : Bs} {c : UInt8} {u : Bs} (h : r.dropWhile (blk3.contains ·) = c :: u) : blk3.contains c = false := by
  induction r with
  | nil => cases h
  | cons d r ih =>
    rw [List.dropWhile_cons] at h
    split at h
    · exact ih h
    · rename_i hd
      cases h
      simpa using hd
theorem rest_stop {r t : Bs} (h : r.dropWhile (blk3.contains ·) = t) (h2 : [47, 47].isPrefixOf t = false) : restL t = t := by
  cases t with
  | nil => rfl
  | cons c u =>
    have hc := trim_head h
    have hc' : (c == 32 || c == 9 || c == 10) = false := by simpa [blk3, Bool.or_assoc] using hc
    have hs : skipL false (c :: u) = 0 := by
      show (if c == 32 || c == 9 || c == 10 then skipL false u + 1 else if c == 47 && u.head? == some 47 then skipL true u + 1 else 0) = 0
      rw [if_neg (by simp [hc']), if_neg]
      intro h47
      cases u with
      | nil => simp at h47
      | cons d u =>
        simp at h47
        simp [List.isPrefixOf, h47.1, h47.2] at h2
    unfold restL
    rw [hs, List.drop_zero]
/-- What is behind the line's end. -/
def aft : Bs → Bs
  | [] => []
  | c :: r => if c == 10 then r else aft r
theorem aft_le : ∀ r : Bs, (aft r).length ≤ r.length
  | [] => Nat.le_refl _
  | c :: r => by
    unfold aft
    have := aft_le r
    split <;> simp <;> omega
theorem rest_true : ∀ r : Bs, r.drop (skipL true r) = restL (aft r)
  | [] => rfl
  | c :: r => by
    show (c :: r).drop (if c == 10 then skipL false r + 1 else skipL true r + 1) = restL (if c == 10 then r else aft r)
    split
    · rfl
    · rw [List.drop_succ_cons]; exact rest_true r
theorem rest_cm {t : Bs} (h : [47, 47].isPrefixOf t = true) : restL t = restL (aft t) ∧ (aft t).length < t.length := by
  match t, h with
  | [], h => simp at h
  | [a], h => simp [List.isPrefixOf] at h
  | a :: b :: u, h =>
    simp [List.isPrefixOf] at h
    obtain ⟨rfl, rfl⟩ := h
    refine ⟨?_, ?_⟩
    · show (47 :: 47 :: u).drop (skipL true (47 :: u) + 1) = _
      rw [List.drop_succ_cons]; exact rest_true (47 :: u)
    · have := aft_le u
      show (aft u).length < _
      simp; omega
theorem cut_aft : ∀ r : Bs, (Lib.cut r [10]).2.1 = aft r := fun r => by
  have key : ∀ r : Bs, (Lib.index r [10] = -1 ∧ aft r = []) ∨ ∃ i : Nat, Lib.index r [10] = i ∧ aft r = r.drop (i + 1) := by
    intro r
    induction r with
    | nil => exact .inl ⟨rfl, rfl⟩
    | cons c r ih =>
      have e : Lib.index (c :: r) [10] = if ([10] : Bs).isPrefixOf (c :: r) then 0 else if Lib.index r [10] == -1 then -1 else Lib.index r [10] + 1 := rfl
      by_cases hc : c = 10
      · subst hc; exact .inr ⟨0, by rw [e]; simp [List.isPrefixOf], rfl⟩
      · have h1 : ([10] : Bs).isPrefixOf (c :: r) = false := by simp [List.isPrefixOf]; exact fun h => hc h.symm
        have h2 : aft (c :: r) = aft r := by show (if c == 10 then r else aft r) = _; rw [if_neg (by simpa using hc)]
        rw [e, h1, h2]
        rcases ih with ⟨i1, i2⟩ | ⟨i, i1, i2⟩
        · exact .inl ⟨by rw [i1]; rfl, i2⟩
        · refine .inr ⟨i + 1, ?_, by rw [i2, List.drop_succ_cons]⟩
          rw [i1, if_neg (by decide), if_neg (by rw [beq_iff_eq]; omega)]
          push_cast; rfl
  unfold Lib.cut
  rcases key r with ⟨h1, h2⟩ | ⟨i, h1, h2⟩
  · rw [h1, if_neg (by omega), h2]
  · rw [h1, if_pos (by omega), h2]; simp
theorem rest_le (r : Bs) : (restL r).length ≤ r.length := by unfold restL; rw [List.length_drop]; omega
/-- All signs, the longest ahead. -/
def signsL : List Bs := [[60, 60, 60], [60, 60], [62, 62], [46, 46], [61], [59], [44], [40], [41], [123], [125], [43], [45], [38], [124], [94], [126]]
def tokS (c : UInt8) (r : Bs) : Option (Nat × Nat) := (signsL.find? fun x => x.isPrefixOf (c :: r)).map fun x => (4, x.length)
theorem tok_sign {c : UInt8} {r : Bs} (hl : letB c = false) (hn : numB c = false) : tokC c r = tokS c r := by
  unfold tokC
  rw [if_neg (by simp [hl]), if_neg (by simp [hn])]
  unfold tokS signsL
  by_cases h60 : c = 60
  · subst h60
    match r with
    | [] => decide
    | [a] =>
      by_cases ha : a = 60
      · subst ha; decide
      · have ha' : ((60 : UInt8) == a) = false := beq_eq_false_iff_ne.2 (Ne.symm ha)
        simp [signs2, signs1, List.isPrefixOf, List.find?, ha, ha']
    | a :: b :: r =>
      by_cases ha : a = 60
      · subst ha
        by_cases hb : b = 60
        · subst hb; simp [List.isPrefixOf, List.find?]
        · have hb' : ((60 : UInt8) == b) = false := beq_eq_false_iff_ne.2 (Ne.symm hb)
          simp [signs2, List.isPrefixOf, List.find?, hb, hb']
      · have ha' : ((60 : UInt8) == a) = false := beq_eq_false_iff_ne.2 (Ne.symm ha)
        simp [signs2, signs1, List.isPrefixOf, List.find?, ha, ha']
  · have h60' : ((60 : UInt8) == c) = false := beq_eq_false_iff_ne.2 (Ne.symm h60)
    rw [if_neg (by simp [h60])]
    have g : ∀ d : UInt8, d ≠ 60 → ((c = d ∧ r.head? = some d) → ((c :: r).take 2 = [d, d])) := fun d _ ⟨h1, h2⟩ => by
      subst h1
      cases r with
      | nil => simp at h2
      | cons a r => simp at h2; simp [h2]
    by_cases h62 : c = 62
    · subst h62
      match r with
      | [] => decide
      | a :: r =>
        by_cases ha : a = 62
        · subst ha; simp [signs2, List.isPrefixOf, List.find?]
        · have ha' : ((62 : UInt8) == a) = false := beq_eq_false_iff_ne.2 (Ne.symm ha)
          simp [signs2, signs1, List.isPrefixOf, List.find?, ha, ha']
    · have h62' : ((62 : UInt8) == c) = false := beq_eq_false_iff_ne.2 (Ne.symm h62)
      by_cases h46 : c = 46
      · subst h46
        match r with
        | [] => decide
        | a :: r =>
          by_cases ha : a = 46
          · subst ha; simp [signs2, List.isPrefixOf, List.find?]
          · have ha' : ((46 : UInt8) == a) = false := beq_eq_false_iff_ne.2 (Ne.symm ha)
            simp [signs2, signs1, List.isPrefixOf, List.find?, ha, ha']
      · have h46' : ((46 : UInt8) == c) = false := beq_eq_false_iff_ne.2 (Ne.symm h46)
        rw [if_neg (by cases r <;> simp [signs2, h60, h62, h46])]
        by_cases hs : c ∈ signs1
        · rw [if_pos hs]
          simp only [signs1, List.mem_cons, List.not_mem_nil, or_false] at hs
          rcases hs with rfl | rfl | rfl | rfl | rfl | rfl | rfl | rfl | rfl | rfl | rfl | rfl | rfl <;> simp [List.isPrefixOf, List.find?]
        · rw [if_neg hs]
          have hs' : ∀ d ∈ signs1, (d == c) = false := fun d hd => beq_eq_false_iff_ne.2 fun e => hs (e ▸ hd)
          simp only [signs1, List.mem_cons, List.not_mem_nil, or_false, forall_eq_or_imp, forall_eq] at hs'
          obtain ⟨s1, s2, s3, s4, s5, s6, s7, s8, s9, s10, s11, s12, s13⟩ := hs'
          simp [List.isPrefixOf, List.find?, h60', h62', h46', s1, s2, s3, s4, s5, s6, s7, s8, s9, s10, s11, s12, s13]
/-- The first of a list of which something holds. -/
theorem find_first {α : Type} (p : α → Bool) : ∀ (q : List α) (x : α) (l r : List α), l = q ++ x :: r → (∀ y ∈ q, p y = false) → p x = true → l.find? p = some x
  | [], x, l, r, h, _, hx => by subst h; simp [hx]
  | y :: q, x, l, r, h, hq, hx => by
    subst h
    rw [List.cons_append, List.find?_cons, hq y (List.mem_cons_self ..)]
    exact find_first p q x _ r rfl (fun z hz => hq z (List.mem_cons_of_mem _ hz)) hx
theorem find_not {α : Type} (p : α → Bool) (l : List α) (h : ∀ y ∈ l, p y = false) : l.find? p = none := by
  rw [List.find?_eq_none]; intro y hy; rw [h y hy]; decide
theorem sgn_take {c : UInt8} {r x : Bs} (hx : x.isPrefixOf (c :: r) = true) : (c :: r).take x.length = x := by
  obtain ⟨t, ht⟩ := List.isPrefixOf_iff_prefix.1 hx
  rw [← ht]; simp
/-- What the iterator hands over: a token and an error. -/
def goI : Nat → Bs → Nat → List (Tk × Nat)
  | 0, _, _ => []
  | f + 1, bs, i =>
    match bs with
    | [] => [(⟨0, [], i⟩, 0)]
    | c :: r =>
      match tokC c r with
      | none => [(⟨0, [], i⟩, 100)]
      | some (k, m) => (⟨k, (c :: r).take m, i⟩, 0) :: goI f (restL ((c :: r).drop m)) (i + m + skipL false ((c :: r).drop m))
theorem goI_nil (f i : Nat) : goI (f + 1) [] i = [(⟨0, [], i⟩, 0)] := rfl
theorem goI_none {f i : Nat} {c : UInt8} {r : Bs} (h : tokC c r = none) : goI (f + 1) (c :: r) i = [(⟨0, [], i⟩, 100)] := by
  show (match tokC c r with | none => _ | some (k, m) => _) = _
  rw [h]
theorem goI_some {f i : Nat} {c : UInt8} {r : Bs} {k m : Nat} (h : tokC c r = some (k, m)) : goI (f + 1) (c :: r) i = (⟨k, (c :: r).take m, i⟩, 0) :: goI f (restL ((c :: r).drop m)) (i + m + skipL false ((c :: r).drop m)) := by
  show (match tokC c r with | none => _ | some (k, m) => _) = _
  rw [h]
theorem goL_none {f i n : Nat} {c : UInt8} {r : Bs} (h : tokC c r = none) : goL (f + 1) (c :: r) i n = ⟨[], i, 100⟩ := by
  show (match tokC c r with | none => _ | some (k, m) => _) = _
  rw [h]
theorem goL_some {f i n : Nat} {c : UInt8} {r : Bs} {k m : Nat} (h : tokC c r = some (k, m)) : goL (f + 1) (c :: r) i n = if n = 4000 then ⟨[], i, 150⟩ else Wd.cons ⟨k, (c :: r).take m, i⟩ (goL f (restL ((c :: r).drop m)) (i + m + skipL false ((c :: r).drop m)) (n + 1)) := by
  show (match tokC c r with | none => _ | some (k, m) => _) = _
  rw [h]; rfl
theorem rest_len {c : UInt8} {r : Bs} {k m f : Nat} (h : tokC c r = some (k, m)) (hf : (c :: r).length < f + 1) : (restL ((c :: r).drop m)).length < f := by
  have hm := tok_len h
  have := rest_le ((c :: r).drop m)
  rw [List.length_drop] at this
  omega
/-- All came, none with an error. -/
theorem goI_all : ∀ (f : Nat) (bs : Bs) (i n : Nat), bs.length < f → (∀ x ∈ goI f bs i, x.2 = 0) → n + (goI f bs i).length ≤ 4000 → goL f bs i n = ⟨(goI f bs i).map (·.1), 0, 0⟩
  | 0, bs, i, n, hf, _, _ => by omega
  | f + 1, [], i, n, hf, h, hn => by
    have hn' : n ≠ 4000 := by rw [goI_nil] at hn; simp at hn; omega
    show (if n = 4000 then (⟨[], i, 150⟩ : Wd) else ⟨[⟨0, [], i⟩], 0, 0⟩) = _
    rw [if_neg hn']; rfl
  | f + 1, c :: r, i, n, hf, h, hn => by
    rcases ht : tokC c r with _ | ⟨k, m⟩
    · rw [goI_none ht] at h
      have := h _ (List.mem_cons_self ..)
      exact absurd this (by show ¬ (100 : Nat) = 0; decide)
    · rw [goI_some ht] at h hn ⊢
      rw [List.length_cons] at hn
      rw [goL_some ht, if_neg (by omega), goI_all f _ _ (n + 1) (rest_len ht hf) (fun x hx => h x (List.mem_cons_of_mem _ hx)) (by omega)]
      rfl
theorem cons_er {t : Tk} {w : Wd} (h : w.er ≠ 0) : Wd.cons t w = w := by unfold Wd.cons; rw [if_neg h]
/-- One came with an error, or one too many. -/
theorem goI_err : ∀ (f : Nat) (bs : Bs) (i n : Nat) (q : List (Tk × Nat)) (x : Tk × Nat) (l : List (Tk × Nat)), bs.length < f → goI f bs i = q ++ x :: l → (∀ y ∈ q, y.2 = 0) → n + q.length ≤ 4000 →
    (x.2 ≠ 0 → goL f bs i n = ⟨[], x.1.at_, x.2⟩) ∧ (x.2 = 0 → n + q.length = 4000 → goL f bs i n = ⟨[], x.1.at_, 150⟩)
  | 0, bs, i, n, q, x, l, hf, _, _, _ => by omega
  | f + 1, [], i, n, q, x, l, hf, h, hq, hn => by
    rw [goI_nil] at h
    cases q with
    | cons y q => simp at h
    | nil =>
      simp at h
      obtain ⟨rfl, rfl⟩ := h
      refine ⟨fun h => absurd rfl h, fun _ hn' => ?_⟩
      show (if n = 4000 then (⟨[], i, 150⟩ : Wd) else ⟨[⟨0, [], i⟩], 0, 0⟩) = _
      rw [if_pos (by simpa using hn')]
  | f + 1, c :: r, i, n, q, x, l, hf, h, hq, hn => by
    rcases ht : tokC c r with _ | ⟨k, m⟩
    · rw [goI_none ht] at h
      cases q with
      | cons y q => simp at h
      | nil =>
        simp at h
        obtain ⟨rfl, rfl⟩ := h
        exact ⟨fun _ => goL_none ht, fun h => absurd h (by show ¬ (100 : Nat) = 0; decide)⟩
    · rw [goI_some ht] at h
      cases q with
      | nil =>
        simp only [List.nil_append, List.cons.injEq] at h
        obtain ⟨rfl, h2⟩ := h
        refine ⟨fun h => absurd rfl h, fun _ hn' => ?_⟩
        rw [goL_some ht, if_pos (by simpa using hn')]
      | cons y q =>
        simp only [List.cons_append, List.cons.injEq] at h
        rw [List.length_cons] at hn
        have ih := goI_err f _ _ (n + 1) q x l (rest_len ht hf) h.2 (fun z hz => hq z (List.mem_cons_of_mem _ hz)) (by omega)
        rw [goL_some ht, if_neg (by omega), List.length_cons]
        refine ⟨fun hx => ?_, fun hx hn' => ?_⟩
        · rw [ih.1 hx]; exact cons_er hx
        · rw [ih.2 hx (by omega)]; exact cons_er (by show ¬ (150 : Nat) = 0; decide)
/-- The items of a text. -/
def itemsL (s : Bs) : List (Tk × Nat) := goI (s.length + 1) (restL s) (skipL false s)
theorem goI_pos : ∀ (f : Nat) (bs : Bs) (i : Nat), 0 < f → 0 < (goI f bs i).length
  | f + 1, [], i, _ => Nat.succ_pos _
  | f + 1, c :: r, i, _ => by
    rcases ht : tokC c r with _ | ⟨k, m⟩
    · rw [goI_none ht]; exact Nat.succ_pos _
    · rw [goI_some ht]; simp
theorem words_all {s : Bs} (hs : s.length ≤ 20000) (h : ∀ x ∈ itemsL s, x.2 = 0) (hn : (itemsL s).length ≤ 4000) : wordsL s = ⟨(itemsL s).map (·.1), 0, 0⟩ := by
  unfold wordsL
  rw [if_neg (by omega)]
  show goL (s.length + 1) (restL s) (skipL false s) 0 = _
  unfold itemsL at h hn ⊢
  exact goI_all _ _ _ 0 (by have := rest_le s; omega) h (by omega)
theorem words_bad {s : Bs} (hs : s.length ≤ 20000) {q : List (Tk × Nat)} {x : Tk × Nat} (h : q ++ [x] <+: itemsL s) (hq : ∀ y ∈ q, y.2 = 0) (hn : q.length ≤ 4000) :
    (x.2 ≠ 0 → wordsL s = ⟨[], x.1.at_, x.2⟩) ∧ (x.2 = 0 → q.length = 4000 → wordsL s = ⟨[], x.1.at_, 150⟩) := by
  obtain ⟨l, hl⟩ := h
  have e : wordsL s = goL (s.length + 1) (restL s) (skipL false s) 0 := by unfold wordsL; rw [if_neg (by omega)]; rfl
  have := goI_err (s.length + 1) (restL s) (skipL false s) 0 q x l (by have := rest_le s; omega) (by show itemsL s = _; rw [← hl]; simp) hq (by omega)
  rw [e]
  rw [Nat.zero_add] at this
  exact this
/-- A text's pieces between the bytes c. -/
def splitB (c : UInt8) : Bs → List Bs
  | [] => [[]]
  | d :: r => if d == c then [] :: splitB c r else match splitB c r with | [] => [[d]] | x :: l => (d :: x) :: l
def signsT : Bs := [60, 60, 60, 32, 60, 60, 32, 62, 62, 32, 46, 46, 32, 61, 32, 59, 32, 44, 32, 40, 32, 41, 32, 123, 32, 125, 32, 43, 32, 45, 32, 38, 32, 124, 32, 94, 32, 126]
theorem split_signs : splitB 32 signsT = signsL := by decide
theorem split_ne (c : UInt8) (r : Bs) : splitB c r ≠ [] := by
  cases r with
  | nil => exact List.cons_ne_nil _ _
  | cons d r =>
    unfold splitB
    split
    · exact List.cons_ne_nil _ _
    · split <;> exact List.cons_ne_nil _ _
theorem split_at (c : UInt8) : ∀ (r : Bs), (Lib.indexByte r c = -1 ∧ splitB c r = [r]) ∨ ∃ i : Nat, Lib.indexByte r c = i ∧ i < r.length ∧ splitB c r = r.take i :: splitB c (r.drop (i + 1))
  | [] => .inl ⟨rfl, rfl⟩
  | d :: r => by
    have e : Lib.indexByte (d :: r) c = if d == c then 0 else if Lib.indexByte r c == -1 then -1 else Lib.indexByte r c + 1 := rfl
    by_cases hd : (d == c) = true
    · refine .inr ⟨0, by rw [e, if_pos hd]; rfl, by simp, ?_⟩
      conv => lhs; unfold splitB
      rw [if_pos hd]; rfl
    · rcases split_at c r with ⟨h1, h2⟩ | ⟨i, h1, h2, h3⟩
      · refine .inl ⟨by rw [e, if_neg hd, h1]; rfl, ?_⟩
        unfold splitB
        rw [if_neg hd, h2]
      · refine .inr ⟨i + 1, ?_, by simp; omega, ?_⟩
        · rw [e, if_neg hd, h1, if_neg (by rw [beq_iff_eq]; omega)]; push_cast; rfl
        · conv => lhs; unfold splitB
          rw [if_neg hd, h3]
          rfl
end Go.Proofs.YtpoepignpdfleaaGreatDoor.Lx
/- DERIVED. The words of texts that are cut, and put together. Of no program. By an AI agent. -/
namespace Go.Proofs.YtpoepignpdfleaaGreatDoor.Lx
theorem run_cut (w : Bool) (u : Bs) : ∀ (r : Bs) (p : Nat), runL w r ≤ p → runL w (r.take p ++ 10 :: u) = runL w r
  | [], p, _ => by
    rw [List.take_nil, List.nil_append, runL_cons, if_neg (by cases w <;> decide)]; rfl
  | c :: r, 0, h => by
    rw [runL_cons] at h
    split at h
    · omega
    · rename_i hc
      rw [List.take_zero, List.nil_append, runL_cons, runL_cons, if_neg hc, if_neg (by cases w <;> decide)]
  | c :: r, p + 1, h => by
    rw [runL_cons] at h
    rw [List.take_succ_cons, List.cons_append, runL_cons, runL_cons]
    split at h
    · rename_i hc
      rw [if_pos hc, if_pos hc, run_cut w u r p (by omega)]
    · rename_i hc
      rw [if_neg hc, if_neg hc]
theorem take_cut {r : Bs} {p q : Nat} (v : Bs) (h1 : q ≤ p) (h2 : q ≤ r.length) : (r.take p ++ v).take q = r.take q := by
  rw [List.take_append_of_le_length (by rw [List.length_take]; omega), List.take_take, Nat.min_eq_left h1]
/-- A token is the same, whatever the text is cut to behind it. -/
theorem tok_cut {c : UInt8} {r : Bs} {k m p : Nat} (h : tokC c r = some (k, m)) (hp : m ≤ p + 1) (u : Bs) : tokC c (r.take p ++ 10 :: u) = some (k, m) := by
  unfold tokC at h
  split at h
  · rename_i hl
    split at h
    · rename_i hw
      cases h
      have hr := run_cut true u r p (by omega)
      have ht := take_cut (r := r) (p := p) (10 :: u) (show runL true r ≤ p by omega) (runL_le true r)
      unfold tokC
      rw [if_pos hl, hr, ht, if_pos hw]
    · rename_i hw
      split at h
      · cases h
      · rename_i h32
        cases h
        have hr := run_cut true u r p (by omega)
        have ht := take_cut (r := r) (p := p) (10 :: u) (show runL true r ≤ p by omega) (runL_le true r)
        unfold tokC
        rw [if_pos hl, hr, ht, if_neg hw, if_neg h32]
  · rename_i hl
    split at h
    · rename_i hn
      cases h
      have hr := run_cut false u r p (by omega)
      unfold tokC
      rw [if_neg hl, if_pos hn, hr]
    · rename_i hn
      unfold tokC
      rw [if_neg hl, if_neg hn]
      split at h
      · rename_i h3
        cases h
        match r, p, h3, hp with
        | [], _, h3, _ => simp at h3
        | [a], _, h3, _ => simp at h3
        | a :: b :: r, 0, h3, hp => omega
        | a :: b :: r, 1, h3, hp => omega
        | a :: b :: r, p + 2, h3, _ => rw [if_pos (by simpa using h3)]
      · rename_i h3
        split at h
        · rename_i h2
          cases h
          match r, p, h3, h2, hp with
          | [], _, _, h2, _ => simp [signs2] at h2
          | a :: r, 0, _, _, hp => omega
          | [a], p + 1, h3, h2, _ => rw [if_neg (by simp), if_pos (by simpa using h2)]
          | a :: b :: r, 1, h3, h2, _ => rw [if_neg (by simp), if_pos (by simpa using h2)]
          | a :: b :: r, p + 2, h3, h2, _ => rw [if_neg (by simpa using h3), if_pos (by simpa using h2)]
        · rename_i h2
          split at h
          · rename_i h1
            cases h
            match r, p, h3, h2 with
            | [], _, _, _ => rw [if_neg (by simp), if_neg (by simp [signs2]), if_pos h1]
            | a :: r, 0, _, _ => rw [if_neg (by simp), if_neg (by simp [signs2]), if_pos h1]
            | [a], p + 1, h3, h2 => rw [if_neg (by simp), if_neg (by simpa using h2), if_pos h1]
            | a :: b :: r, 1, h3, h2 => rw [if_neg (by simp), if_neg (by simpa using h2), if_pos h1]
            | a :: b :: r, p + 2, h3, h2 => rw [if_neg (by simpa using h3), if_neg (by simpa using h2), if_pos h1]
          · cases h
theorem sk_t1 {c : UInt8} (hc : (c == 10) = true) (v : Bs) : skipL true (c :: v) = skipL false v + 1 := by
  show (if (c == 10) = true then _ else _) = _
  rw [if_pos hc]
theorem sk_t2 {c : UInt8} (hc : ¬ (c == 10) = true) (v : Bs) : skipL true (c :: v) = skipL true v + 1 := by
  show (if (c == 10) = true then _ else _) = _
  rw [if_neg hc]
theorem sk_f1 {c : UInt8} (hb : (c == 32 || c == 9 || c == 10) = true) (v : Bs) : skipL false (c :: v) = skipL false v + 1 := by
  show (if (c == 32 || c == 9 || c == 10) = true then _ else _) = _
  rw [if_pos hb]
theorem sk_f2 {c : UInt8} (hb : ¬ (c == 32 || c == 9 || c == 10) = true) (hc : (c == 47) = true) (v : Bs) : skipL false (c :: 47 :: v) = skipL true (47 :: v) + 1 := by
  show (if (c == 32 || c == 9 || c == 10) = true then _ else if (c == 47 && (47 :: v).head? == some 47) = true then _ else _) = _
  rw [if_neg hb, if_pos (by rw [hc]; simp)]
theorem sk_f3 {c : UInt8} {r : Bs} (hb : ¬ (c == 32 || c == 9 || c == 10) = true) (hm : ¬ (c == 47 && r.head? == some 47) = true) : skipL false (c :: r) = 0 := by
  show (if (c == 32 || c == 9 || c == 10) = true then _ else if (c == 47 && r.head? == some 47) = true then _ else _) = _
  rw [if_neg hb, if_neg hm]
/-- Past the blanks, and what is put behind them begins with a blank. -/
theorem skip_end (u : Bs) : ∀ (q : Bool) (bs : Bs), skipL q (bs.take (skipL q bs) ++ 10 :: u) = skipL q bs + skipL false (10 :: u)
  | true, [] => by show skipL false u + 1 = 0 + (skipL false u + 1); omega
  | false, [] => by show skipL false u + 1 = 0 + (skipL false u + 1); omega
  | true, c :: r => by
    by_cases hc : (c == 10) = true
    · have e := sk_t1 hc
      rw [e, List.take_succ_cons, List.cons_append, e, skip_end u false r]; omega
    · have e := sk_t2 hc
      rw [e, List.take_succ_cons, List.cons_append, e, skip_end u true r]; omega
  | false, c :: r => by
    by_cases hb : (c == 32 || c == 9 || c == 10) = true
    · have e := sk_f1 hb
      rw [e, List.take_succ_cons, List.cons_append, e, skip_end u false r]; omega
    · by_cases hm : (c == 47 && r.head? == some 47) = true
      · obtain ⟨v, rfl⟩ : ∃ v, r = 47 :: v := by
          cases r with
          | nil => simp at hm
          | cons d v => simp at hm; exact ⟨v, by rw [hm.2]⟩
        have hc : (c == 47) = true := by simp at hm; simpa using hm
        have e := sk_f2 hb hc
        have e2 : ∀ v, skipL true (47 :: v) = skipL true v + 1 := fun v => rfl
        have ih := skip_end u true (47 :: v)
        rw [e2, List.take_succ_cons, List.cons_append, e2] at ih
        rw [e, e2, List.take_succ_cons, List.cons_append, List.take_succ_cons, List.cons_append, e, e2]; omega
      · have e := sk_f3 hb hm
        rw [e, List.take_zero, List.nil_append]; omega
theorem skip_mid (u : Bs) : ∀ (q : Bool) (bs : Bs) (p : Nat), skipL q bs < p → p ≤ bs.length → skipL q (bs.take p ++ 10 :: u) = skipL q bs
  | _, [], p, h1, h2 => by simp at h2; omega
  | _, _ :: _, 0, h1, _ => by omega
  | true, c :: r, p + 1, h1, h2 => by
    rw [List.length_cons] at h2
    by_cases hc : (c == 10) = true
    · have e := sk_t1 hc
      rw [e] at h1
      rw [List.take_succ_cons, List.cons_append, e, e, skip_mid u false r p (by omega) (by omega)]
    · have e := sk_t2 hc
      rw [e] at h1
      rw [List.take_succ_cons, List.cons_append, e, e, skip_mid u true r p (by omega) (by omega)]
  | false, c :: r, p + 1, h1, h2 => by
    rw [List.length_cons] at h2
    by_cases hb : (c == 32 || c == 9 || c == 10) = true
    · have e := sk_f1 hb
      rw [e] at h1
      rw [List.take_succ_cons, List.cons_append, e, e, skip_mid u false r p (by omega) (by omega)]
    · by_cases hm : (c == 47 && r.head? == some 47) = true
      · obtain ⟨v, rfl⟩ : ∃ v, r = 47 :: v := by
          cases r with
          | nil => simp at hm
          | cons d v => simp at hm; exact ⟨v, by rw [hm.2]⟩
        have hc : (c == 47) = true := by simp at hm; simpa using hm
        have e := sk_f2 hb hc
        have e2 : ∀ v, skipL true (47 :: v) = skipL true v + 1 := fun v => rfl
        rw [e, e2] at h1
        obtain ⟨p, rfl⟩ : ∃ x, p = x + 1 := ⟨p - 1, by omega⟩
        have ih := skip_mid u true (47 :: v) (p + 1) (by rw [e2]; omega) (by omega)
        rw [List.take_succ_cons, List.cons_append] at ih
        rw [List.take_succ_cons, List.cons_append, List.take_succ_cons, List.cons_append, e, e, ih]
      · have e := sk_f3 hb hm
        rw [e, List.take_succ_cons, List.cons_append]
        refine sk_f3 hb ?_
        cases r with
        | nil => simp
        | cons d v =>
          cases p with
          | zero => simp
          | succ p => simpa using hm
end Go.Proofs.YtpoepignpdfleaaGreatDoor.Lx
/- DERIVED. The tokens of texts that are cut at a token, or put together. Of no program. By an AI agent. -/
namespace Go.Proofs.YtpoepignpdfleaaGreatDoor.Lx
theorem go_fuel : ∀ (f g : Nat) (bs : Bs) (i n : Nat), bs.length < f → bs.length < g → goL f bs i n = goL g bs i n
  | 0, _, _, _, _, h, _ => by omega
  | _ + 1, 0, _, _, _, _, h => by omega
  | f + 1, g + 1, [], i, n, _, _ => rfl
  | f + 1, g + 1, c :: r, i, n, hf, hg => by
    rcases ht : tokC c r with _ | ⟨k, m⟩
    · rw [goL_none ht, goL_none ht]
    · rw [goL_some ht, goL_some ht, go_fuel f g _ _ _ (rest_len ht hf) (rest_len ht hg)]
/-- A text's tokens, from place i on, n being there. -/
def gC (bs : Bs) (i n : Nat) : Wd := goL (bs.length + 1) (restL bs) (i + skipL false bs) n
theorem words_gC {s : Bs} (h : s.length ≤ 20000) : wordsL s = gC s 0 0 := by
  unfold wordsL gC restL
  rw [if_neg (by omega), Nat.zero_add]
theorem gC_of (bs : Bs) (i n f : Nat) (hf : (restL bs).length < f) : goL f (restL bs) (i + skipL false bs) n = gC bs i n :=
  go_fuel f _ _ _ _ hf (by have := rest_le bs; omega)
theorem gC_nil {bs : Bs} (h : restL bs = []) (i n : Nat) : gC bs i n = if n = 4000 then ⟨[], i + skipL false bs, 150⟩ else ⟨[⟨0, [], i + skipL false bs⟩], 0, 0⟩ := by
  unfold gC; rw [h]; rfl
theorem gC_none {bs r : Bs} {c : UInt8} (h : restL bs = c :: r) (ht : tokC c r = none) (i n : Nat) : gC bs i n = ⟨[], i + skipL false bs, 100⟩ := by
  unfold gC; rw [h, goL_none ht]
theorem gC_some {bs r : Bs} {c : UInt8} {k m : Nat} (h : restL bs = c :: r) (ht : tokC c r = some (k, m)) (i n : Nat) :
    gC bs i n = if n = 4000 then ⟨[], i + skipL false bs, 150⟩ else Wd.cons ⟨k, (c :: r).take m, i + skipL false bs⟩ (gC ((c :: r).drop m) (i + skipL false bs + m) (n + 1)) := by
  have hl := rest_le bs
  have hm := rest_len ht (f := bs.length) (by rw [← h]; omega)
  unfold gC
  rw [h, goL_some ht, go_fuel bs.length (((c :: r).drop m).length + 1) _ _ _ hm (by have := rest_le ((c :: r).drop m); omega)]
theorem cons_ok {t : Tk} {w : Wd} (h : (Wd.cons t w).er = 0) : w.er = 0 ∧ Wd.cons t w = ⟨t :: w.l, w.at_, 0⟩ := by
  unfold Wd.cons at h ⊢
  split at h
  · rename_i h0; rw [if_pos h0]; exact ⟨h0, by rw [h0]⟩
  · rename_i h0; exact absurd h h0
theorem cons_is {t : Tk} {w : Wd} (h : w.er = 0) : Wd.cons t w = ⟨t :: w.l, w.at_, 0⟩ := by unfold Wd.cons; rw [if_pos h, h]
theorem gC_ok {bs : Bs} {i n : Nat} (h : (gC bs i n).er = 0) :
    (restL bs = [] ∧ n ≠ 4000 ∧ gC bs i n = ⟨[⟨0, [], i + skipL false bs⟩], 0, 0⟩) ∨
    ∃ c r k m, restL bs = c :: r ∧ tokC c r = some (k, m) ∧ n ≠ 4000 ∧ (gC ((c :: r).drop m) (i + skipL false bs + m) (n + 1)).er = 0 ∧
      gC bs i n = ⟨⟨k, (c :: r).take m, i + skipL false bs⟩ :: (gC ((c :: r).drop m) (i + skipL false bs + m) (n + 1)).l, (gC ((c :: r).drop m) (i + skipL false bs + m) (n + 1)).at_, 0⟩ := by
  rcases hr : restL bs with _ | ⟨c, r⟩
  · rw [gC_nil hr] at h ⊢
    by_cases hn : n = 4000
    · rw [if_pos hn] at h; exact absurd h (by show ¬ (150 : Nat) = 0; decide)
    · rw [if_neg hn]; exact .inl ⟨rfl, hn, rfl⟩
  · rcases ht : tokC c r with _ | ⟨k, m⟩
    · rw [gC_none hr ht] at h; exact absurd h (by show ¬ (100 : Nat) = 0; decide)
    · rw [gC_some hr ht] at h ⊢
      by_cases hn : n = 4000
      · rw [if_pos hn] at h; exact absurd h (by show ¬ (150 : Nat) = 0; decide)
      · rw [if_neg hn] at h ⊢
        obtain ⟨h1, h2⟩ := cons_ok h
        exact .inr ⟨c, r, k, m, rfl, ht, hn, h1, h2⟩
/-- Tokens ahead of others. -/
def preW (l : List Tk) (w : Wd) : Wd := l.foldr Wd.cons w
theorem gC_ins (bs u : Bs) (i n : Nat) : gC (bs.take (skipL false bs) ++ 10 :: u) i n = gC (10 :: u) (i + skipL false bs) n := by
  have hs := skip_end u false bs
  have hl : (bs.take (skipL false bs)).length = skipL false bs := by rw [List.length_take]; have := skipL_le false bs; omega
  have hr : restL (bs.take (skipL false bs) ++ 10 :: u) = restL (10 :: u) := by
    have e := congrArg (List.drop (skipL false (10 :: u))) (List.drop_left' (l₂ := 10 :: u) hl)
    rw [List.drop_drop] at e
    unfold restL
    rw [hs]
    exact e
  rw [← gC_of (10 :: u) _ _ ((bs.take (skipL false bs) ++ 10 :: u).length + 1) (by have := rest_le (10 :: u); rw [List.length_append]; omega)]
  unfold gC
  rw [hr, hs, Nat.add_assoc]
theorem gC_rest {bs : Bs} (h : skipL false (restL bs) = 0) (i n : Nat) : gC bs i n = gC (restL bs) (i + skipL false bs) n := by
  have hr : restL (restL bs) = restL bs := by conv => lhs; rw [restL, h, List.drop_zero]
  rw [← gC_of (restL bs) _ _ (bs.length + 1) (by have := rest_le bs; rw [hr]; omega), hr, h]
  rfl
/-- A text cut at a token: what is ahead is as it was. -/
theorem gC_pre : ∀ (N : Nat) (bs : Bs) (i n : Nat), bs.length ≤ N → (gC bs i n).er = 0 → ∀ (j : Nat) (t : Tk), (gC bs i n).l[j]? = some t →
    i + skipL false bs ≤ t.at_ ∧ t.at_ ≤ i + bs.length ∧ (∀ u, gC (bs.take (t.at_ - i) ++ 10 :: u) i n = preW ((gC bs i n).l.take j) (gC (10 :: u) t.at_ (n + j))) ∧
      gC bs i n = preW ((gC bs i n).l.take j) (gC (bs.drop (t.at_ - i)) t.at_ (n + j)) ∧ skipL false (bs.drop (t.at_ - i)) = 0 := by
  intro N
  induction N with
  | zero =>
    intro bs i n hN h j t hj
    obtain rfl : bs = [] := List.eq_nil_of_length_eq_zero (by omega)
    rcases gC_ok h with ⟨hr, hn, e⟩ | ⟨c, r, k, m, hr, _⟩
    · rw [e] at hj ⊢
      cases j with
      | succ j => simp at hj
      | zero =>
        have ht : t = ⟨0, [], i + skipL false []⟩ := by simpa using hj.symm
        subst ht
        have hs : i + skipL false [] - i = skipL false [] := by omega
        exact ⟨Nat.le_refl _, Nat.le_refl i, fun u => by rw [hs]; exact gC_ins [] u i n, by rw [hs]; exact e.symm, by rw [List.drop_nil]; rfl⟩
    · cases hr
  | succ N ih =>
    intro bs i n hN h j t hj
    have hP := skipL_le false bs
    rcases gC_ok h with ⟨hr, hn, e⟩ | ⟨c, r, k, m, hr, ht, hn, hw, e⟩
    · have hs0 : skipL false (restL bs) = 0 := by rw [hr]; rfl
      have he := gC_rest hs0 i n
      have hs : i + skipL false bs - i = skipL false bs := by omega
      rw [e] at hj
      cases j with
      | succ j => simp at hj
      | zero =>
        have ht : t = ⟨0, [], i + skipL false bs⟩ := by simpa using hj.symm
        subst ht
        refine ⟨Nat.le_refl _, by show i + _ ≤ _; omega, fun u => ?_, ?_, ?_⟩
        · show gC (bs.take (i + skipL false bs - i) ++ 10 :: u) i n = _
          rw [hs]; exact gC_ins bs u i n
        · show gC bs i n = gC (bs.drop (i + skipL false bs - i)) (i + skipL false bs) (n + 0)
          rw [hs]; exact he
        · show skipL false (bs.drop (i + skipL false bs - i)) = 0
          rw [hs]; exact hs0
    · have hs0 : skipL false (restL bs) = 0 := by rw [hr]; exact tok_skip ht _
      have he := gC_rest hs0 i n
      have hs : i + skipL false bs - i = skipL false bs := by omega
      have hm := tok_len ht
      have hrl : (c :: r).length = bs.length - skipL false bs := by rw [← hr]; unfold restL; rw [List.length_drop]
      cases j with
      | zero =>
        rw [e] at hj
        have ht : t = ⟨k, (c :: r).take m, i + skipL false bs⟩ := by simpa using hj.symm
        subst ht
        refine ⟨Nat.le_refl _, by show i + _ ≤ _; omega, fun u => ?_, ?_, ?_⟩
        · show gC (bs.take (i + skipL false bs - i) ++ 10 :: u) i n = _
          rw [hs]; exact gC_ins bs u i n
        · show gC bs i n = gC (bs.drop (i + skipL false bs - i)) (i + skipL false bs) (n + 0)
          rw [hs]; exact he
        · show skipL false (bs.drop (i + skipL false bs - i)) = 0
          rw [hs]; exact hs0
      | succ j =>
        have hj2 : (gC ((c :: r).drop m) (i + skipL false bs + m) (n + 1)).l[j]? = some t := by rw [e] at hj; simpa using hj
        have hd : ((c :: r).drop m).length = (c :: r).length - m := List.length_drop
        obtain ⟨a1, a2, a3, a4, a5⟩ := ih ((c :: r).drop m) (i + skipL false bs + m) (n + 1) (by omega) hw j t hj2
        have hp : skipL false bs + m ≤ t.at_ - i := by omega
        have hx : t.at_ - i ≤ bs.length := by omega
        obtain ⟨p, hpp⟩ : ∃ p, t.at_ - i = skipL false bs + (p + 1) := ⟨t.at_ - i - skipL false bs - 1, by omega⟩
        have hdr : bs.drop (t.at_ - i) = ((c :: r).drop m).drop (t.at_ - (i + skipL false bs + m)) := by
          rw [← hr, restL, List.drop_drop, List.drop_drop]; congr 1; omega
        refine ⟨by omega, by omega, fun u => ?_, ?_, by rw [hdr]; exact a5⟩
        · have hsm := skip_mid u false bs (t.at_ - i) (by omega) hx
          have hr2 : restL (bs.take (t.at_ - i) ++ 10 :: u) = c :: (r.take p ++ 10 :: u) := by
            unfold restL at hr ⊢
            rw [hsm, List.drop_append_of_le_length (by rw [List.length_take]; omega), List.drop_take, hr, hpp, Nat.add_sub_cancel_left, List.take_succ_cons, List.cons_append]
          have ht2 := tok_cut (p := p) ht (by omega) u
          have htake : (c :: (r.take p ++ 10 :: u)).take m = (c :: r).take m := by
            obtain ⟨q, rfl⟩ : ∃ q, m = q + 1 := ⟨m - 1, by omega⟩
            rw [List.take_succ_cons, List.take_succ_cons, take_cut (10 :: u) (by omega) (by have := hm.2.1; simp at this; omega)]
          have hdrop : (c :: (r.take p ++ 10 :: u)).drop m = ((c :: r).drop m).take (t.at_ - (i + skipL false bs + m)) ++ 10 :: u := by
            obtain ⟨q, rfl⟩ : ∃ q, m = q + 1 := ⟨m - 1, by omega⟩
            have hq : q ≤ r.length := by have := hm.2.1; simp at this; omega
            rw [List.drop_succ_cons, List.drop_succ_cons, List.drop_append_of_le_length (by rw [List.length_take]; omega), List.drop_take]
            congr 2
            omega
          rw [gC_some hr2 ht2, if_neg hn, hsm, htake, hdrop, a3 u, e, List.take_succ_cons]
          show Wd.cons _ (preW _ _) = Wd.cons _ (preW _ _)
          rw [show n + 1 + j = n + (j + 1) by omega]
        · rw [hdr]
          conv => lhs; rw [gC_some hr ht, if_neg hn, a4]
          rw [e, List.take_succ_cons]
          show Wd.cons _ (preW _ _) = Wd.cons _ (preW _ _)
          rw [show n + 1 + j = n + (j + 1) by omega]
end Go.Proofs.YtpoepignpdfleaaGreatDoor.Lx
/- DERIVED. The words of a text with blanks put in at a token, and of two texts one behind the other. Of no program. By an AI agent. -/
namespace Go.Proofs.YtpoepignpdfleaaGreatDoor.Lx
theorem strip_cons (t : Tk) (l : List Tk) : strip (t :: l) = (t.k, t.s) :: strip l := rfl
theorem strip_app (a b : List Tk) : strip (a ++ b) = strip a ++ strip b := List.map_append
theorem strip_len (l : List Tk) : (strip l).length = l.length := List.length_map _
theorem cons_cong {t t' : Tk} {w w' : Wd} (hk : t.k = t'.k) (hs : t.s = t'.s) (he : w.er = w'.er) (hl : strip w.l = strip w'.l) : (Wd.cons t w).er = (Wd.cons t' w').er ∧ strip (Wd.cons t w).l = strip (Wd.cons t' w').l := by
  unfold Wd.cons
  by_cases h : w.er = 0
  · rw [if_pos h, if_pos (he ▸ h)]
    exact ⟨he, by rw [strip_cons, strip_cons, hk, hs, hl]⟩
  · rw [if_neg h, if_neg (he ▸ h)]
    exact ⟨he, hl⟩
/-- Places change nothing else. -/
theorem go_place : ∀ (f : Nat) (bs : Bs) (i i' n : Nat), (goL f bs i n).er = (goL f bs i' n).er ∧ strip (goL f bs i n).l = strip (goL f bs i' n).l
  | 0, _, _, _, _ => ⟨rfl, rfl⟩
  | f + 1, [], i, i', n => by
    show (if n = 4000 then (⟨[], i, 150⟩ : Wd) else ⟨[⟨0, [], i⟩], 0, 0⟩).er = (if n = 4000 then (⟨[], i', 150⟩ : Wd) else ⟨[⟨0, [], i'⟩], 0, 0⟩).er ∧ strip (if n = 4000 then (⟨[], i, 150⟩ : Wd) else ⟨[⟨0, [], i⟩], 0, 0⟩).l = strip (if n = 4000 then (⟨[], i', 150⟩ : Wd) else ⟨[⟨0, [], i'⟩], 0, 0⟩).l
    by_cases hn : n = 4000
    · rw [if_pos hn, if_pos hn]; exact ⟨rfl, rfl⟩
    · rw [if_neg hn, if_neg hn]; exact ⟨rfl, rfl⟩
  | f + 1, c :: r, i, i', n => by
    rcases ht : tokC c r with _ | ⟨k, m⟩
    · rw [goL_none ht, goL_none ht]; exact ⟨rfl, rfl⟩
    · rw [goL_some ht, goL_some ht]
      by_cases hn : n = 4000
      · rw [if_pos hn, if_pos hn]; exact ⟨rfl, rfl⟩
      · rw [if_neg hn, if_neg hn]
        have ih := go_place f (restL ((c :: r).drop m)) (i + m + skipL false ((c :: r).drop m)) (i' + m + skipL false ((c :: r).drop m)) (n + 1)
        exact cons_cong rfl rfl ih.1 ih.2
/-- How many tokens are there already matters only where they are too many. -/
theorem go_count : ∀ (f : Nat) (bs : Bs) (i n : Nat), bs.length < f → (goL f bs i n).er = 0 → ∀ n', n' ≤ 4000 →
    (n' + (goL f bs i n).l.length ≤ 4000 → goL f bs i n' = goL f bs i n) ∧ (4000 < n' + (goL f bs i n).l.length → (goL f bs i n').er = 150)
  | 0, _, _, _, h, _ => by omega
  | f + 1, [], i, n, hf, h => fun n' hn' => by
    have e : ∀ n, goL (f + 1) [] i n = if n = 4000 then ⟨[], i, 150⟩ else ⟨[⟨0, [], i⟩], 0, 0⟩ := fun _ => rfl
    by_cases hn : n = 4000
    · rw [e, if_pos hn] at h; exact absurd h (by show ¬ (150 : Nat) = 0; decide)
    · rw [e n, if_neg hn, e n']
      refine ⟨fun hl => ?_, fun hl => ?_⟩
      · rw [if_neg (by simp at hl; omega)]
      · rw [if_pos (by simp at hl; omega)]
  | f + 1, c :: r, i, n, hf, h => fun n' hn' => by
    rcases ht : tokC c r with _ | ⟨k, m⟩
    · rw [goL_none ht] at h; exact absurd h (by show ¬ (100 : Nat) = 0; decide)
    · have hl := rest_len ht hf
      rw [goL_some ht] at h ⊢
      by_cases hn : n = 4000
      · rw [if_pos hn] at h; exact absurd h (by show ¬ (150 : Nat) = 0; decide)
      · rw [if_neg hn] at h ⊢
        obtain ⟨h1, h2⟩ := cons_ok h
        rw [h2, goL_some ht]
        have ih := fun n'' => go_count f _ _ (n + 1) hl h1 n''
        rw [List.length_cons]
        by_cases hn2 : n' = 4000
        · rw [if_pos hn2]
          exact ⟨fun hx => by omega, fun _ => rfl⟩
        · rw [if_neg hn2]
          obtain ⟨a1, a2⟩ := ih (n' + 1) (by omega)
          refine ⟨fun hx => ?_, fun hx => ?_⟩
          · rw [a1 (by omega), cons_is h1]
          · have := a2 (by omega)
            rw [cons_er (by rw [this]; decide)]; exact this
theorem go_len : ∀ (f : Nat) (bs : Bs) (i n : Nat), bs.length < f → (goL f bs i n).er = 0 → n ≤ 4000 → n + (goL f bs i n).l.length ≤ 4000
  | 0, _, _, _, h, _, _ => by omega
  | f + 1, bs, i, n, hf, h, hn => by
    rcases go_ok (f + 1) bs i n hf h with ⟨rfl, hn2, e⟩ | ⟨c, r, k, m, rfl, ht, hn2, hw, e, hl⟩
    · rw [e]; show n + 1 ≤ 4000; omega
    · have := go_len f _ _ (n + 1) hl hw (by omega)
      rw [e, List.length_cons]
      simp only [Nat.add_sub_cancel] at this ⊢
      omega
theorem preW_ok : ∀ (l : List Tk) {w : Wd}, w.er = 0 → (preW l w).er = 0 ∧ (preW l w).l = l ++ w.l
  | [], w, h => ⟨h, rfl⟩
  | t :: l, w, h => by
    have ih := preW_ok l h
    show (Wd.cons t (preW l w)).er = 0 ∧ (Wd.cons t (preW l w)).l = _
    rw [cons_is ih.1]
    exact ⟨rfl, by show t :: _ = _; rw [ih.2]; rfl⟩
theorem preW_bad : ∀ (l : List Tk) {w : Wd}, w.er ≠ 0 → preW l w = w
  | [], w, h => rfl
  | t :: l, w, h => by
    show Wd.cons t (preW l w) = w
    rw [preW_bad l h, cons_er h]
theorem preW_cong : ∀ (l : List Tk) {w w' : Wd}, w.er = w'.er → strip w.l = strip w'.l → (preW l w).er = (preW l w').er ∧ strip (preW l w).l = strip (preW l w').l
  | [], _, _, he, hl => ⟨he, hl⟩
  | t :: l, w, w', he, hl => by
    have ih := preW_cong l he hl
    exact cons_cong rfl rfl ih.1 ih.2
theorem gC_ne {bs : Bs} {i n : Nat} (h : (gC bs i n).er = 0) : (gC bs i n).l ≠ [] := by
  rcases gC_ok h with ⟨_, _, e⟩ | ⟨_, _, _, _, _, _, _, _, e⟩ <;> rw [e] <;> exact List.cons_ne_nil _ _
/-- Blanks put in at a token. -/
theorem words_blank (s v : Bs) (hs : s.length + (v.length + 1) ≤ 20000) (h : (wordsL s).er = 0) (j : Nat) (t : Tk) (hj : (wordsL s).l[j]? = some t) (hv : ∀ r, skipL false (10 :: (v ++ r)) = v.length + 1 + skipL false r) :
    (wordsL (s.take t.at_ ++ 10 :: (v ++ s.drop t.at_))).er = 0 ∧ strip (wordsL (s.take t.at_ ++ 10 :: (v ++ s.drop t.at_))).l = strip (wordsL s).l := by
  have hl : (s.take t.at_ ++ 10 :: (v ++ s.drop t.at_)).length ≤ 20000 := by
    simp only [List.length_append, List.length_cons, List.length_take, List.length_drop]; omega
  have hs2 : s.length ≤ 20000 := by omega
  rw [words_gC hs2] at h hj ⊢
  rw [words_gC hl]
  obtain ⟨_, _, a3, a4, a5⟩ := gC_pre s.length s 0 0 (Nat.le_refl _) h j t hj
  simp only [Nat.sub_zero] at a3 a4 a5
  have hr : restL (10 :: (v ++ s.drop t.at_)) = s.drop t.at_ := by
    unfold restL
    rw [hv, a5, Nat.add_zero, List.drop_succ_cons, List.drop_append_of_le_length (Nat.le_refl _), List.drop_length, List.nil_append]
  have hr2 : restL (s.drop t.at_) = s.drop t.at_ := by unfold restL; rw [a5, List.drop_zero]
  have e1 : gC (10 :: (v ++ s.drop t.at_)) t.at_ (0 + j) = goL ((s.drop t.at_).length + 1) (s.drop t.at_) (t.at_ + skipL false (10 :: (v ++ s.drop t.at_))) (0 + j) := by
    rw [← gC_of _ _ _ ((s.drop t.at_).length + 1) (by rw [hr]; omega), hr]
  have e2 : gC (s.drop t.at_) t.at_ (0 + j) = goL ((s.drop t.at_).length + 1) (s.drop t.at_) (t.at_ + 0) (0 + j) := by
    rw [← gC_of _ _ _ ((s.drop t.at_).length + 1) (by rw [hr2]; omega), hr2, a5]
  have hp := go_place ((s.drop t.at_).length + 1) (s.drop t.at_) (t.at_ + skipL false (10 :: (v ++ s.drop t.at_))) (t.at_ + 0) (0 + j)
  rw [← e1, ← e2] at hp
  have hc := preW_cong ((gC s 0 0).l.take j) hp.1 hp.2
  rw [← a4, ← a3] at hc
  exact ⟨hc.1.trans h, hc.2⟩
/-- Two texts, a line feed between them. -/
theorem words_two (s t : Bs) (hl : s.length + (t.length + 1) ≤ 20000) (hs : (wordsL s).er = 0) (ht : (wordsL t).er = 0) :
    ((wordsL s).l.length - 1 + (wordsL t).l.length ≤ 4000 → (wordsL (s ++ 10 :: t)).er = 0 ∧ strip (wordsL (s ++ 10 :: t)).l = strip (wordsL s).l.dropLast ++ strip (wordsL t).l) ∧
    (4000 < (wordsL s).l.length - 1 + (wordsL t).l.length → (wordsL (s ++ 10 :: t)).er = 150) := by
  have hlen : (s ++ 10 :: t).length ≤ 20000 := by rw [List.length_append, List.length_cons]; omega
  rw [words_gC (by omega)] at hs ht
  rw [words_gC (s := s) (by omega), words_gC (s := t) (by omega), words_gC hlen]
  have hne := gC_ne hs
  obtain ⟨N, hN⟩ : ∃ N, (gC s 0 0).l.length = N + 1 := ⟨(gC s 0 0).l.length - 1, by have := List.length_pos_iff.2 hne; omega⟩
  obtain ⟨e, he⟩ : ∃ e, (gC s 0 0).l[N]? = some e := ⟨_, List.getElem?_eq_getElem (by omega)⟩
  obtain ⟨_, a2, a3, a4, a5⟩ := gC_pre s.length s 0 0 (Nat.le_refl _) hs N e he
  simp only [Nat.sub_zero] at a3 a4 a5
  have h4000 : N ≤ 4000 ∧ e.at_ = s.length := by
    refine ⟨?_, ?_⟩
    · have := go_len (s.length + 1) (restL s) (0 + skipL false s) 0 (by have := rest_le s; omega) hs (by omega)
      have h2 : (goL (s.length + 1) (restL s) (0 + skipL false s) 0).l.length = N + 1 := hN
      omega
    · have hr0 : (gC (s.drop e.at_) e.at_ (0 + N)).er = 0 := Decidable.byContradiction fun hx => by
        rw [preW_bad _ hx] at a4
        exact hx (a4 ▸ hs)
      have hq := (preW_ok ((gC s 0 0).l.take N) hr0).2
      rw [← a4] at hq
      have hq2 := congrArg List.length hq
      rw [List.length_append, List.length_take, hN] at hq2
      rcases gC_ok hr0 with ⟨hr, _, _⟩ | ⟨c, r, k, m, _, _, _, hw, e3⟩
      · have : s.drop e.at_ = [] := by
          unfold restL at hr
          rw [a5, List.drop_zero] at hr
          exact hr
        have := congrArg List.length this
        rw [List.length_drop] at this
        simp at this
        omega
      · have := List.length_pos_iff.2 (gC_ne hw)
        rw [e3, List.length_cons] at hq2
        omega
  have hst : s.take e.at_ = s := by rw [h4000.2, List.take_length]
  have hdl : (gC s 0 0).l.take N = (gC s 0 0).l.dropLast := by rw [List.dropLast_eq_take, hN]; rfl
  have ha3 := a3 t
  rw [hst, hdl] at ha3
  have hsk : skipL false (10 :: t) = skipL false t + 1 := rfl
  have hrt : restL (10 :: t) = restL t := by unfold restL; rw [hsk]; rfl
  have e1 : gC (10 :: t) e.at_ (0 + N) = goL (t.length + 1) (restL t) (e.at_ + skipL false (10 :: t)) (0 + N) := by
    rw [← gC_of _ _ _ (t.length + 1) (by rw [hrt]; have := rest_le t; omega), hrt]
  have hp := go_place (t.length + 1) (restL t) (e.at_ + skipL false (10 :: t)) (0 + skipL false t) (0 + N)
  obtain ⟨c1, c2⟩ := go_count (t.length + 1) (restL t) (0 + skipL false t) 0 (by have := rest_le t; omega) ht (0 + N) (by omega)
  rw [← e1] at hp
  rw [hN, Nat.add_sub_cancel]
  refine ⟨fun hx => ?_, fun hx => ?_⟩
  · have c3 := c1 (by show 0 + N + (gC t 0 0).l.length ≤ 4000; omega)
    rw [c3] at hp
    have hp1 : (gC (10 :: t) e.at_ (0 + N)).er = 0 := hp.1.trans ht
    have hq := preW_ok ((gC s 0 0).l.dropLast) hp1
    rw [ha3]
    exact ⟨hq.1, by rw [hq.2, strip_app, hp.2]; rfl⟩
  · have c3 := c2 (by show 4000 < 0 + N + (gC t 0 0).l.length; omega)
    rw [c3] at hp
    rw [ha3, preW_bad _ (by rw [hp.1]; decide)]
    exact hp.1
end Go.Proofs.YtpoepignpdfleaaGreatDoor.Lx
/- DERIVED. The grammar of programs, plainly: what tokens are read as, and what is wrong first. Of no program. By an AI agent. -/
namespace Go.Proofs.YtpoepignpdfleaaGreatDoor.Pa
open Lx
inductive Tr
  | mk (k at_ : Nat) (s : Bs) (n : Nat) (ps : List Bs) (l : List Tr)
def Tr.place : Tr → Nat
  | .mk _ a _ _ _ _ => a
def Tr.put : Tr → Nat → Tr
  | .mk k _ s n ps l, a => .mk k a s n ps l
inductive Out
  | ok (l : List Tr) (r : List Tk)
  | bad (at_ er : Nat)
/-- What is read: an expression of a level (5: UNARY), what goes on behind one, behind arguments, a statement's end, statements. -/
inductive NT
  | lev (n : Nat)
  | more (n : Nat) (x : Tr)
  | args (l : List Tr)
  | fin (k a : Nat) (s : Bs) (ps : List Bs)
  | inner
  | inners (l : List Tr)
  | stmt
  | stmts (l : List Tr)
def isS (b : Bs) (t : Tk) : Bool := decide (2 < t.k) && t.s == b
def sOf : Nat → List Bs
  | 0 => [[124]]
  | 1 => [[94]]
  | 2 => [[38]]
  | 3 => [[60, 60], [62, 62], [60, 60, 60]]
  | _ => [[43], [45]]
def onS (n : Nat) (t : Tk) : Bool := t.k == 4 && (sOf n).contains t.s
def hd (xs : List Tr) : Tr := xs.headD (.mk 0 0 [] 0 [] [])
abbrev OO := Option Out
def bnd (o : OO) (f : List Tr → List Tk → OO) : OO :=
  match o with
  | none => none
  | some (.bad a e) => some (.bad a e)
  | some (.ok l r) => f l r
def wrong (l : List Tk) (e : Nat) : OO := some (.bad (match l with | [] => 0 | t :: _ => t.at_) e)
def must (b : Bs) (l : List Tk) (f : List Tk → OO) : OO :=
  match l with
  | [] => wrong l 100
  | t :: r => if isS b t = true then f r else wrong l 100
def nameK (l : List Tk) (f : Bs → List Tk → OO) : OO :=
  match l with
  | [] => wrong l 100
  | t :: r => if t.k = 1 then f t.s r else wrong l 100
def namesK : List Bs → List Tk → (List Bs → List Tk → OO) → OO
  | _, [], _ => wrong [] 100
  | ps, [t], f => if t.k = 1 then f (ps ++ [t.s]) [] else wrong [t] 100
  | ps, t :: u :: r, f => if t.k = 1 then (if isS [44] u = true then namesK (ps ++ [t.s]) r f else f (ps ++ [t.s]) (u :: r)) else wrong (t :: u :: r) 100
/-- With fuel f; num: a number's value and error (0: none; 4: no number). -/
def pF (num : Bs → Nat × Nat) : Nat → NT → Nat → List Tk → OO
  | 0, _, _, _ => none
  | f + 1, .lev n, d, l =>
    if n < 5 then bnd (pF num f (.lev (n + 1)) d l) fun xs r => pF num f (.more n (hd xs)) d r
    else match l with
      | [] => wrong [] 100
      | t :: r =>
        if 60 < d then wrong (t :: r) 150
        else if (isS [126] t || isS [45] t) = true then bnd (pF num f (.lev 5) (d + 1) r) fun xs r' => some (.ok [.mk 2 t.at_ t.s 0 [] xs] r')
        else if t.k = 2 then (if (num t.s).2 = 0 then some (.ok [.mk 0 t.at_ [] (num t.s).1 [] []] r) else wrong (t :: r) (if (num t.s).2 = 4 then 100 else 150))
        else if isS [40] t = true then bnd (pF num f (.lev 0) (d + 1) r) fun xs r' => must [41] r' fun r'' => some (.ok (xs.map (·.put t.at_)) r'')
        else nameK (t :: r) fun s r => match r with
          | [] => some (.ok [.mk 1 t.at_ s 0 [] []] [])
          | u :: r' => if isS [40] u = true then bnd (pF num f (.lev 0) (d + 1) r') fun xs r'' => bnd (pF num f (.args xs) (d + 1) r'') fun ys r3 => must [41] r3 fun r4 => some (.ok [.mk 5 t.at_ s 0 [] ys] r4)
            else some (.ok [.mk 1 t.at_ s 0 [] []] (u :: r'))
  | f + 1, .more n x, d, l =>
    match l with
    | [] => some (.ok [x] [])
    | t :: r => if onS n t = true then bnd (pF num f (.lev (n + 1)) d r) fun ys r' => pF num f (.more n (.mk (if n = 3 then 4 else 3) x.place t.s 0 [] (x :: ys))) d r' else some (.ok [x] (t :: r))
  | f + 1, .args xs, d, l =>
    match l with
    | [] => some (.ok xs [])
    | t :: r => if isS [44] t = true then bnd (pF num f (.lev 0) d r) fun ys r' => pF num f (.args (xs ++ ys)) d r' else some (.ok xs (t :: r))
  | f + 1, .fin k a s ps, d, l => bnd (pF num f (.lev 0) d l) fun xs r => must [59] r fun r' => some (.ok [.mk k a s 0 ps xs] r')
  | f + 1, .inner, d, l =>
    match l with
    | [] => wrong [] 100
    | t :: r =>
      if 60 < d then wrong (t :: r) 150
      else if isS [102, 111, 114] t = true then nameK r fun s r1 => must [105, 110] r1 fun r2 => bnd (pF num f (.lev 0) d r2) fun xs r3 => must [46, 46] r3 fun r4 => bnd (pF num f (.lev 0) d r4) fun ys r5 => must [123] r5 fun r6 =>
        bnd (pF num f (.inners (xs ++ ys)) d r6) fun zs r7 => some (.ok [.mk 11 t.at_ s 0 [] zs] r7)
      else nameK (t :: r) fun s r1 => must [61] r1 fun r2 => pF num f (.fin 10 t.at_ s []) d r2
  | f + 1, .inners zs, d, l =>
    match l with
    | [] => wrong [] 100
    | t :: r => if isS [125] t = true then some (.ok zs r) else bnd (pF num f .inner (d + 1) (t :: r)) fun xs r' => pF num f (.inners (zs ++ xs)) d r'
  | f + 1, .stmt, d, l =>
    match l with
    | [] => wrong [] 100
    | t :: r =>
      if isS [115, 101, 99, 114, 101, 116] t = true then namesK [] r fun ps r1 => must [59] r1 fun r2 => some (.ok [.mk 6 t.at_ [] 0 ps []] r2)
      else if isS [112, 117, 98, 108, 105, 99] t = true then namesK [] r fun ps r1 => must [59] r1 fun r2 => some (.ok [.mk 7 t.at_ [] 0 ps []] r2)
      else if isS [111, 117, 116] t = true then nameK r fun s r1 => must [61] r1 fun r2 => pF num f (.fin 8 t.at_ s []) d r2
      else if isS [115, 104, 111, 119] t = true then nameK r fun s r1 => must [61] r1 fun r2 => pF num f (.fin 9 t.at_ s []) d r2
      else if isS [102, 110] t = true then nameK r fun s r1 => must [40] r1 fun r2 => namesK [] r2 fun ps r3 => must [41] r3 fun r4 => must [61] r4 fun r5 => pF num f (.fin 12 t.at_ s ps) d r5
      else pF num f .inner 0 (t :: r)
  | f + 1, .stmts xs, d, l =>
    match l with
    | [] => wrong [] 100
    | t :: r => if t.k = 0 then some (.ok xs (t :: r)) else bnd (pF num f .stmt 0 (t :: r)) fun ys r' => pF num f (.stmts (xs ++ ys)) d r'
mutual
/-- A tree without places. -/
def sk : Tr → Tr
  | .mk k _ s n ps l => .mk k 0 s n ps (skL l)
def skL : List Tr → List Tr
  | [] => []
  | x :: l => sk x :: skL l
end
def Out.sk : Out → Out
  | .ok l r => .ok (skL l) (r.map fun t => ⟨t.k, t.s, 0⟩)
  | .bad _ e => .bad 0 e
theorem skL_app : ∀ (a b : List Tr), skL (a ++ b) = skL a ++ skL b
  | [], _ => rfl
  | x :: a, b => by show sk x :: skL (a ++ b) = _; rw [skL_app a b]; rfl
/-- Tokens that are the same but for their places. -/
def Sl (l l' : List Tk) : Prop := l.map (fun t => (⟨t.k, t.s, 0⟩ : Tk)) = l'.map fun t => ⟨t.k, t.s, 0⟩
theorem sl_cons {t t' : Tk} {l l' : List Tk} (h : Sl (t :: l) (t' :: l')) : t.k = t'.k ∧ t.s = t'.s ∧ Sl l l' := by
  unfold Sl at h
  simp only [List.map_cons, List.cons.injEq, Tk.mk.injEq, and_true] at h
  exact ⟨h.1.1, h.1.2, h.2⟩
theorem sl_mk {t t' : Tk} {l l' : List Tk} (hk : t.k = t'.k) (hs : t.s = t'.s) (h : Sl l l') : Sl (t :: l) (t' :: l') := by
  unfold Sl at *
  simp only [List.map_cons, hk, hs, h]
theorem sl_strip {l l' : List Tk} (h : strip l = strip l') : Sl l l' := by
  induction l generalizing l' with
  | nil => cases l' with
    | nil => rfl
    | cons t l' => cases h
  | cons t l ih => cases l' with
    | nil => cases h
    | cons t' l' =>
      simp only [strip, List.map_cons, List.cons.injEq, Prod.mk.injEq] at h
      exact sl_mk h.1.1 h.1.2 (ih h.2)
/-- Outcomes that are the same but for places. -/
def Eo (o o' : OO) : Prop := o.map Out.sk = o'.map Out.sk
theorem eo_ok {l l' : List Tr} {r r' : List Tk} (h1 : skL l = skL l') (h2 : Sl r r') : Eo (some (.ok l r)) (some (.ok l' r')) := by
  show some (Out.ok (skL l) _) = some (Out.ok (skL l') _)
  rw [h1, show r.map (fun t => (⟨t.k, t.s, 0⟩ : Tk)) = _ from h2]
theorem eo_wrong (l l' : List Tk) (e : Nat) : Eo (wrong l e) (wrong l' e) := rfl
theorem eo_bnd {o o' : OO} {f f' : List Tr → List Tk → OO} (h : Eo o o') (hf : ∀ xs xs' r r', skL xs = skL xs' → Sl r r' → Eo (f xs r) (f' xs' r')) : Eo (bnd o f) (bnd o' f') := by
  unfold Eo at h
  rcases o with _ | ⟨l, r⟩ | ⟨a, e⟩ <;> rcases o' with _ | ⟨l', r'⟩ | ⟨a', e'⟩ <;> simp only [Option.map_none, Option.map_some, Out.sk, Option.some.injEq, Out.ok.injEq, Out.bad.injEq, reduceCtorEq, true_and] at h
  · rfl
  · exact hf _ _ _ _ h.1 h.2
  · subst h; rfl
theorem eo_must {b : Bs} {l l' : List Tk} {f f' : List Tk → OO} (h : Sl l l') (hf : ∀ r r', Sl r r' → Eo (f r) (f' r')) : Eo (must b l f) (must b l' f') := by
  cases l with
  | nil => cases l' with
    | nil => rfl
    | cons t l' => cases h
  | cons t l => cases l' with
    | nil => cases h
    | cons t' l' =>
      obtain ⟨h1, h2, h3⟩ := sl_cons h
      have e : isS b t = isS b t' := by unfold isS; rw [h1, h2]
      unfold must
      simp only
      rw [e]
      split
      · exact hf _ _ h3
      · rfl
theorem eo_name {l l' : List Tk} {f f' : Bs → List Tk → OO} (h : Sl l l') (hf : ∀ s r r', Sl r r' → Eo (f s r) (f' s r')) : Eo (nameK l f) (nameK l' f') := by
  cases l with
  | nil => cases l' with
    | nil => rfl
    | cons t l' => cases h
  | cons t l => cases l' with
    | nil => cases h
    | cons t' l' =>
      obtain ⟨h1, h2, h3⟩ := sl_cons h
      unfold nameK
      simp only
      rw [h1, h2]
      split
      · exact hf _ _ _ h3
      · rfl
theorem eo_names {f f' : List Bs → List Tk → OO} (hf : ∀ ps r r', Sl r r' → Eo (f ps r) (f' ps r')) : ∀ (ps : List Bs) (l l' : List Tk), Sl l l' → Eo (namesK ps l f) (namesK ps l' f')
  | ps, [], [], _ => rfl
  | _, [], _ :: _, h => by cases h
  | _, _ :: _, [], h => by cases h
  | ps, [t], [t'], h => by
    obtain ⟨h1, h2, h3⟩ := sl_cons h
    unfold namesK
    rw [h1, h2]
    split
    · exact hf _ _ _ h3
    · rfl
  | _, [_], _ :: _ :: _, h => by simp [Sl] at h
  | _, _ :: _ :: _, [_], h => by simp [Sl] at h
  | ps, t :: u :: r, t' :: u' :: r', h => by
    obtain ⟨h1, h2, h3⟩ := sl_cons h
    obtain ⟨g1, g2, g3⟩ := sl_cons h3
    have e : isS [44] u = isS [44] u' := by unfold isS; rw [g1, g2]
    unfold namesK
    rw [h1, h2, e]
    split
    · split
      · exact eo_names hf _ r r' g3
      · exact hf _ _ _ h3
    · rfl
end Go.Proofs.YtpoepignpdfleaaGreatDoor.Pa
