/- DERIVED. The words of programs, plainly: as the program takes them: what is left behind all that is passed over, the first token of a text by a list of signs, the list of what its iterator hands over. Of no program. By an AI agent. -/
import Derived.Test.YtiagagljghoacaaDoorLxSpec
import Derived.Lib.IndexMore
namespace Go.Proofs.YtiagagljghoacaaDoor.Lx
/-- What is left behind all that is passed over. -/
def restL (r : Bs) : Bs := r.drop (skipL false r)
def blk3 : Bs := [32, 9, 10]
theorem skip_blk {c : UInt8} {r : Bs} (h : blk3.contains c = true) : skipL false (c :: r) = skipL false r + 1 := by
  have h' : (c == 32 || c == 9 || c == 10) = true := by simpa [blk3, Bool.or_assoc] using h
  show (if c == 32 || c == 9 || c == 10 then _ else _) = _
  rw [if_pos h']
theorem rest_trim : ∀ r : Bs, restL (r.dropWhile (blk3.contains ·)) = restL r
  | [] => rfl
  | c :: r => by
    rw [List.dropWhile_cons]
    split
    · rename_i h
      rw [rest_trim r]
      unfold restL
      rw [skip_blk h, List.drop_succ_cons]
    · rfl
theorem trim_head {r : Bs} {c : UInt8} {u : Bs} (h : r.dropWhile (blk3.contains ·) = c :: u) : blk3.contains c = false := by
  induction r with
  | nil => cases h
  | cons d r ih =>
    rw [List.dropWhile_cons] at h
    split at h
    · exact ih h
    · rename_i hd
      cases h
      simpa using hd
theorem rest_stop {r t : Bs} (h : r.dropWhile (blk3.contains ·) = t) (h2 : [47, 47].isPrefixOf t = false) : restL t = t := by
  cases t with
  | nil => rfl
  | cons c u =>
    have hc := trim_head h
    have hc' : (c == 32 || c == 9 || c == 10) = false := by simpa [blk3, Bool.or_assoc] using hc
    have hs : skipL false (c :: u) = 0 := by
      show (if c == 32 || c == 9 || c == 10 then skipL false u + 1 else if c == 47 && u.head? == some 47 then skipL true u + 1 else 0) = 0
      rw [if_neg (by simp [hc']), if_neg]
      intro h47
      cases u with
      | nil => simp at h47
      | cons d u =>
        simp at h47
        simp [List.isPrefixOf, h47.1, h47.2] at h2
    unfold restL
    rw [hs, List.drop_zero]
/-- What is behind the line's end. -/
def aft : Bs → Bs
  | [] => []
  | c :: r => if c == 10 then r else aft r
theorem aft_le : ∀ r : Bs, (aft r).length ≤ r.length
  | [] => Nat.le_refl _
  | c :: r => by
    unfold aft
    have := aft_le r
    split <;> simp <;> omega
theorem rest_true : ∀ r : Bs, r.drop (skipL true r) = restL (aft r)
  | [] => rfl
  | c :: r => by
    show (c :: r).drop (if c == 10 then skipL false r + 1 else skipL true r + 1) = restL (if c == 10 then r else aft r)
    split
    · rfl
    · rw [List.drop_succ_cons]; exact rest_true r
theorem rest_cm {t : Bs} (h : [47, 47].isPrefixOf t = true) : restL t = restL (aft t) ∧ (aft t).length < t.length := by
  match t, h with
  | [], h => simp at h
  | [a], h => simp [List.isPrefixOf] at h
  | a :: b :: u, h =>
    simp [List.isPrefixOf] at h
    obtain ⟨rfl, rfl⟩ := h
    refine ⟨?_, ?_⟩
    · show (47 :: 47 :: u).drop (skipL true (47 :: u) + 1) = _
      rw [List.drop_succ_cons]; exact rest_true (47 :: u)
    · have := aft_le u
      show (aft u).length < _
      simp; omega
theorem cut_aft : ∀ r : Bs, (Lib.cut r [10]).2.1 = aft r := fun r => by
  have key : ∀ r : Bs, (Lib.index r [10] = -1 ∧ aft r = []) ∨ ∃ i : Nat, Lib.index r [10] = i ∧ aft r = r.drop (i + 1) := by
    intro r
    induction r with
    | nil => exact .inl ⟨rfl, rfl⟩
    | cons c r ih =>
      have e : Lib.index (c :: r) [10] = if ([10] : Bs).isPrefixOf (c :: r) then 0 else if Lib.index r [10] == -1 then -1 else Lib.index r [10] + 1 := rfl
      by_cases hc : c = 10
      · subst hc; exact .inr ⟨0, by rw [e]; simp [List.isPrefixOf], rfl⟩
      · have h1 : ([10] : Bs).isPrefixOf (c :: r) = false := by simp [List.isPrefixOf]; exact fun h => hc h.symm
        have h2 : aft (c :: r) = aft r := by show (if c == 10 then r else aft r) = _; rw [if_neg (by simpa using hc)]
        rw [e, h1, h2]
        rcases ih with ⟨i1, i2⟩ | ⟨i, i1, i2⟩
        · exact .inl ⟨by rw [i1]; rfl, i2⟩
        · refine .inr ⟨i + 1, ?_, by rw [i2, List.drop_succ_cons]⟩
          rw [i1, if_neg (by decide), if_neg (by rw [beq_iff_eq]; omega)]
          push_cast; rfl
  unfold Lib.cut
  rcases key r with ⟨h1, h2⟩ | ⟨i, h1, h2⟩
  · rw [h1, if_neg (by omega), h2]
  · rw [h1, if_pos (by omega), h2]; simp
theorem rest_le (r : Bs) : (restL r).length ≤ r.length := by unfold restL; rw [List.length_drop]; omega
/-- All signs, the longest ahead. -/
def signsL : List Bs := [[60, 60, 60], [60, 60], [62, 62], [46, 46], [61], [59], [44], [40], [41], [123], [125], [43], [45], [38], [124], [94], [126]]
def tokS (c : UInt8) (r : Bs) : Option (Nat × Nat) := (signsL.find? fun x => x.isPrefixOf (c :: r)).map fun x => (4, x.length)
theorem tok_sign {c : UInt8} {r : Bs} (hl : letB c = false) (hn : numB c = false) : tokC c r = tokS c r := by
  unfold tokC
  rw [if_neg (by simp [hl]), if_neg (by simp [hn])]
  unfold tokS signsL
  by_cases h60 : c = 60
  · subst h60
    match r with
    | [] => decide
    | [a] =>
      by_cases ha : a = 60
      · subst ha; decide
      · have ha' : ((60 : UInt8) == a) = false := beq_eq_false_iff_ne.2 (Ne.symm ha)
        simp [signs2, signs1, List.isPrefixOf, List.find?, ha, ha']
    | a :: b :: r =>
      by_cases ha : a = 60
      · subst ha
        by_cases hb : b = 60
        · subst hb; simp [List.isPrefixOf, List.find?]
        · have hb' : ((60 : UInt8) == b) = false := beq_eq_false_iff_ne.2 (Ne.symm hb)
          simp [signs2, List.isPrefixOf, List.find?, hb, hb']
      · have ha' : ((60 : UInt8) == a) = false := beq_eq_false_iff_ne.2 (Ne.symm ha)
        simp [signs2, signs1, List.isPrefixOf, List.find?, ha, ha']
  · have h60' : ((60 : UInt8) == c) = false := beq_eq_false_iff_ne.2 (Ne.symm h60)
    rw [if_neg (by simp [h60])]
    have g : ∀ d : UInt8, d ≠ 60 → ((c = d ∧ r.head? = some d) → ((c :: r).take 2 = [d, d])) := fun d _ ⟨h1, h2⟩ => by
      subst h1
      cases r with
      | nil => simp at h2
      | cons a r => simp at h2; simp [h2]
    by_cases h62 : c = 62
    · subst h62
      match r with
      | [] => decide
      | a :: r =>
        by_cases ha : a = 62
        · subst ha; simp [signs2, List.isPrefixOf, List.find?]
        · have ha' : ((62 : UInt8) == a) = false := beq_eq_false_iff_ne.2 (Ne.symm ha)
          simp [signs2, signs1, List.isPrefixOf, List.find?, ha, ha']
    · have h62' : ((62 : UInt8) == c) = false := beq_eq_false_iff_ne.2 (Ne.symm h62)
      by_cases h46 : c = 46
      · subst h46
        match r with
        | [] => decide
        | a :: r =>
          by_cases ha : a = 46
          · subst ha; simp [signs2, List.isPrefixOf, List.find?]
          · have ha' : ((46 : UInt8) == a) = false := beq_eq_false_iff_ne.2 (Ne.symm ha)
            simp [signs2, signs1, List.isPrefixOf, List.find?, ha, ha']
      · have h46' : ((46 : UInt8) == c) = false := beq_eq_false_iff_ne.2 (Ne.symm h46)
        rw [if_neg (by cases r <;> simp [signs2, h60, h62, h46])]
        by_cases hs : c ∈ signs1
        · rw [if_pos hs]
          simp only [signs1, List.mem_cons, List.not_mem_nil, or_false] at hs
          rcases hs with rfl | rfl | rfl | rfl | rfl | rfl | rfl | rfl | rfl | rfl | rfl | rfl | rfl <;> simp [List.isPrefixOf, List.find?]
        · rw [if_neg hs]
          have hs' : ∀ d ∈ signs1, (d == c) = false := fun d hd => beq_eq_false_iff_ne.2 fun e => hs (e ▸ hd)
          simp only [signs1, List.mem_cons, List.not_mem_nil, or_false, forall_eq_or_imp, forall_eq] at hs'
          obtain ⟨s1, s2, s3, s4, s5, s6, s7, s8, s9, s10, s11, s12, s13⟩ := hs'
          simp [List.isPrefixOf, List.find?, h60', h62', h46', s1, s2, s3, s4, s5, s6, s7, s8, s9, s10, s11, s12, s13]
/-- The first of a list of which something holds. -/
theorem find_first {α : Type} (p : α → Bool) : ∀ (q : List α) (x : α) (l r : List α), l = q ++ x :: r → (∀ y ∈ q, p y = false) → p x = true → l.find? p = some x
  | [], x, l, r, h, _, hx => by subst h; simp [hx]
  | y :: q, x, l, r, h, hq, hx => by
    subst h
    rw [List.cons_append, List.find?_cons, hq y (List.mem_cons_self ..)]
    exact find_first p q x _ r rfl (fun z hz => hq z (List.mem_cons_of_mem _ hz)) hx
theorem find_not {α : Type} (p : α → Bool) (l : List α) (h : ∀ y ∈ l, p y = false) : l.find? p = none := by
  rw [List.find?_eq_none]; intro y hy; rw [h y hy]; decide
theorem sgn_take {c : UInt8} {r x : Bs} (hx : x.isPrefixOf (c :: r) = true) : (c :: r).take x.length = x := by
  obtain ⟨t, ht⟩ := List.isPrefixOf_iff_prefix.1 hx
  rw [← ht]; simp
/-- What the iterator hands over: a token and an error. -/
def goI : Nat → Bs → Nat → List (Tk × Nat)
  | 0, _, _ => []
  | f + 1, bs, i =>
    match bs with
    | [] => [(⟨0, [], i⟩, 0)]
    | c :: r =>
      match tokC c r with
      | none => [(⟨0, [], i⟩, 100)]
      | some (k, m) => (⟨k, (c :: r).take m, i⟩, 0) :: goI f (restL ((c :: r).drop m)) (i + m + skipL false ((c :: r).drop m))
theorem goI_nil (f i : Nat) : goI (f + 1) [] i = [(⟨0, [], i⟩, 0)] := rfl
theorem goI_none {f i : Nat} {c : UInt8} {r : Bs} (h : tokC c r = none) : goI (f + 1) (c :: r) i = [(⟨0, [], i⟩, 100)] := by
  show (match tokC c r with | none => _ | some (k, m) => _) = _
  rw [h]
theorem goI_some {f i : Nat} {c : UInt8} {r : Bs} {k m : Nat} (h : tokC c r = some (k, m)) : goI (f + 1) (c :: r) i = (⟨k, (c :: r).take m, i⟩, 0) :: goI f (restL ((c :: r).drop m)) (i + m + skipL false ((c :: r).drop m)) := by
  show (match tokC c r with | none => _ | some (k, m) => _) = _
  rw [h]
theorem goL_none {f i n : Nat} {c : UInt8} {r : Bs} (h : tokC c r = none) : goL (f + 1) (c :: r) i n = ⟨[], i, 100⟩ := by
  show (match tokC c r with | none => _ | some (k, m) => _) = _
  rw [h]
theorem goL_some {f i n : Nat} {c : UInt8} {r : Bs} {k m : Nat} (h : tokC c r = some (k, m)) : goL (f + 1) (c :: r) i n = if n = 4000 then ⟨[], i, 150⟩ else Wd.cons ⟨k, (c :: r).take m, i⟩ (goL f (restL ((c :: r).drop m)) (i + m + skipL false ((c :: r).drop m)) (n + 1)) := by
  show (match tokC c r with | none => _ | some (k, m) => _) = _
  rw [h]; rfl
theorem rest_len {c : UInt8} {r : Bs} {k m f : Nat} (h : tokC c r = some (k, m)) (hf : (c :: r).length < f + 1) : (restL ((c :: r).drop m)).length < f := by
  have hm := tok_len h
  have := rest_le ((c :: r).drop m)
  rw [List.length_drop] at this
  omega
/-- All came, none with an error. -/
theorem goI_all : ∀ (f : Nat) (bs : Bs) (i n : Nat), bs.length < f → (∀ x ∈ goI f bs i, x.2 = 0) → n + (goI f bs i).length ≤ 4000 → goL f bs i n = ⟨(goI f bs i).map (·.1), 0, 0⟩
  | 0, bs, i, n, hf, _, _ => by omega
  | f + 1, [], i, n, hf, h, hn => by
    have hn' : n ≠ 4000 := by rw [goI_nil] at hn; simp at hn; omega
    show (if n = 4000 then (⟨[], i, 150⟩ : Wd) else ⟨[⟨0, [], i⟩], 0, 0⟩) = _
    rw [if_neg hn']; rfl
  | f + 1, c :: r, i, n, hf, h, hn => by
    rcases ht : tokC c r with _ | ⟨k, m⟩
    · rw [goI_none ht] at h
      have := h _ (List.mem_cons_self ..)
      exact absurd this (by show ¬ (100 : Nat) = 0; decide)
    · rw [goI_some ht] at h hn ⊢
      rw [List.length_cons] at hn
      rw [goL_some ht, if_neg (by omega), goI_all f _ _ (n + 1) (rest_len ht hf) (fun x hx => h x (List.mem_cons_of_mem _ hx)) (by omega)]
      rfl
theorem cons_er {t : Tk} {w : Wd} (h : w.er ≠ 0) : Wd.cons t w = w := by unfold Wd.cons; rw [if_neg h]
/-- One came with an error, or one too many. -/
theorem goI_err : ∀ (f : Nat) (bs : Bs) (i n : Nat) (q : List (Tk × Nat)) (x : Tk × Nat) (l : List (Tk × Nat)), bs.length < f → goI f bs i = q ++ x :: l → (∀ y ∈ q, y.2 = 0) → n + q.length ≤ 4000 →
    (x.2 ≠ 0 → goL f bs i n = ⟨[], x.1.at_, x.2⟩) ∧ (x.2 = 0 → n + q.length = 4000 → goL f bs i n = ⟨[], x.1.at_, 150⟩)
  | 0, bs, i, n, q, x, l, hf, _, _, _ => by omega
  | f + 1, [], i, n, q, x, l, hf, h, hq, hn => by
    rw [goI_nil] at h
    cases q with
    | cons y q => simp at h
    | nil =>
      simp at h
      obtain ⟨rfl, rfl⟩ := h
      refine ⟨fun h => absurd rfl h, fun _ hn' => ?_⟩
      show (if n = 4000 then (⟨[], i, 150⟩ : Wd) else ⟨[⟨0, [], i⟩], 0, 0⟩) = _
      rw [if_pos (by simpa using hn')]
  | f + 1, c :: r, i, n, q, x, l, hf, h, hq, hn => by
    rcases ht : tokC c r with _ | ⟨k, m⟩
    · rw [goI_none ht] at h
      cases q with
      | cons y q => simp at h
      | nil =>
        simp at h
        obtain ⟨rfl, rfl⟩ := h
        exact ⟨fun _ => goL_none ht, fun h => absurd h (by show ¬ (100 : Nat) = 0; decide)⟩
    · rw [goI_some ht] at h
      cases q with
      | nil =>
        simp only [List.nil_append, List.cons.injEq] at h
        obtain ⟨rfl, h2⟩ := h
        refine ⟨fun h => absurd rfl h, fun _ hn' => ?_⟩
        rw [goL_some ht, if_pos (by simpa using hn')]
      | cons y q =>
        simp only [List.cons_append, List.cons.injEq] at h
        rw [List.length_cons] at hn
        have ih := goI_err f _ _ (n + 1) q x l (rest_len ht hf) h.2 (fun z hz => hq z (List.mem_cons_of_mem _ hz)) (by omega)
        rw [goL_some ht, if_neg (by omega), List.length_cons]
        refine ⟨fun hx => ?_, fun hx hn' => ?_⟩
        · rw [ih.1 hx]; exact cons_er hx
        · rw [ih.2 hx (by omega)]; exact cons_er (by show ¬ (150 : Nat) = 0; decide)
/-- The items of a text. -/
def itemsL (s : Bs) : List (Tk × Nat) := goI (s.length + 1) (restL s) (skipL false s)
theorem goI_pos : ∀ (f : Nat) (bs : Bs) (i : Nat), 0 < f → 0 < (goI f bs i).length
  | f + 1, [], i, _ => Nat.succ_pos _
  | f + 1, c :: r, i, _ => by
    rcases ht : tokC c r with _ | ⟨k, m⟩
    · rw [goI_none ht]; exact Nat.succ_pos _
    · rw [goI_some ht]; simp
theorem words_all {s : Bs} (hs : s.length ≤ 20000) (h : ∀ x ∈ itemsL s, x.2 = 0) (hn : (itemsL s).length ≤ 4000) : wordsL s = ⟨(itemsL s).map (·.1), 0, 0⟩ := by
  unfold wordsL
  rw [if_neg (by omega)]
  show goL (s.length + 1) (restL s) (skipL false s) 0 = _
  unfold itemsL at h hn ⊢
  exact goI_all _ _ _ 0 (by have := rest_le s; omega) h (by omega)
theorem words_bad {s : Bs} (hs : s.length ≤ 20000) {q : List (Tk × Nat)} {x : Tk × Nat} (h : q ++ [x] <+: itemsL s) (hq : ∀ y ∈ q, y.2 = 0) (hn : q.length ≤ 4000) :
    (x.2 ≠ 0 → wordsL s = ⟨[], x.1.at_, x.2⟩) ∧ (x.2 = 0 → q.length = 4000 → wordsL s = ⟨[], x.1.at_, 150⟩) := by
  obtain ⟨l, hl⟩ := h
  have e : wordsL s = goL (s.length + 1) (restL s) (skipL false s) 0 := by unfold wordsL; rw [if_neg (by omega)]; rfl
  have := goI_err (s.length + 1) (restL s) (skipL false s) 0 q x l (by have := rest_le s; omega) (by show itemsL s = _; rw [← hl]; simp) hq (by omega)
  rw [e]
  rw [Nat.zero_add] at this
  exact this
/-- A text's pieces between the bytes c. -/
def splitB (c : UInt8) : Bs → List Bs
  | [] => [[]]
  | d :: r => if d == c then [] :: splitB c r else match splitB c r with | [] => [[d]] | x :: l => (d :: x) :: l
def signsT : Bs := [60, 60, 60, 32, 60, 60, 32, 62, 62, 32, 46, 46, 32, 61, 32, 59, 32, 44, 32, 40, 32, 41, 32, 123, 32, 125, 32, 43, 32, 45, 32, 38, 32, 124, 32, 94, 32, 126]
theorem split_signs : splitB 32 signsT = signsL := by decide
theorem split_ne (c : UInt8) (r : Bs) : splitB c r ≠ [] := by
  cases r with
  | nil => exact List.cons_ne_nil _ _
  | cons d r =>
    unfold splitB
    split
    · exact List.cons_ne_nil _ _
    · split <;> exact List.cons_ne_nil _ _
theorem split_at (c : UInt8) : ∀ (r : Bs), (Lib.indexByte r c = -1 ∧ splitB c r = [r]) ∨ ∃ i : Nat, Lib.indexByte r c = i ∧ i < r.length ∧ splitB c r = r.take i :: splitB c (r.drop (i + 1))
  | [] => .inl ⟨rfl, rfl⟩
  | d :: r => by
    have e : Lib.indexByte (d :: r) c = if d == c then 0 else if Lib.indexByte r c == -1 then -1 else Lib.indexByte r c + 1 := rfl
    by_cases hd : (d == c) = true
    · refine .inr ⟨0, by rw [e, if_pos hd]; rfl, by simp, ?_⟩
      conv => lhs; unfold splitB
      rw [if_pos hd]; rfl
    · rcases split_at c r with ⟨h1, h2⟩ | ⟨i, h1, h2, h3⟩
      · refine .inl ⟨by rw [e, if_neg hd, h1]; rfl, ?_⟩
        unfold splitB
        rw [if_neg hd, h2]
      · refine .inr ⟨i + 1, ?_, by simp; omega, ?_⟩
        · rw [e, if_neg hd, h1, if_neg (by rw [beq_iff_eq]; omega)]; push_cast; rfl
        · conv => lhs; unfold splitB
          rw [if_neg hd, h3]
          rfl
end Go.Proofs.YtiagagljghoacaaDoor.Lx
