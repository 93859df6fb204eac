/- DERIVED. PaLx, PaLy, PaLz in one text. By an AI agent. -/
import Derived.Test.YtkdpndoollbggaaDoorZ01
/- DERIVED. The words of texts that are cut, and put together. Of no program. By an AI agent. -/
namespace Go.Proofs.YtkdpndoollbggaaDoor.Lx
theorem run_cut (w : Bool) (u : Bs) : ∀ (r : Bs) (p : Nat), runL w r ≤ p → runL w (r.take p ++ 10 :: u) = runL w r
  | [], p, _ => by
    rw [List.take_nil, List.nil_append, runL_cons, if_neg (by cases w <;> decide)]; rfl
  | c :: r, 0, h => by
    rw [runL_cons] at h
    split at h
    · omega
    · rename_i hc
      rw [List.take_zero, List.nil_append, runL_cons, runL_cons, if_neg hc, if_neg (by cases w <;> decide)]
  | c :: r, p + 1, h => by
    rw [runL_cons] at h
    rw [List.take_succ_cons, List.cons_append, runL_cons, runL_cons]
    split at h
    · rename_i hc
      rw [if_pos hc, if_pos hc, run_cut w u r p (by omega)]
    · rename_i hc
      rw [if_neg hc, if_neg hc]
theorem take_cut {r : Bs} {p q : Nat} (v : Bs) (h1 : q ≤ p) (h2 : q ≤ r.length) : (r.take p ++ v).take q = r.take q := by
  rw [List.take_append_of_le_length (by rw [List.length_take]; omega), List.take_take, Nat.min_eq_left h1]
/-- A token is the same, whatever the text is cut to behind it. -/
theorem tok_cut {c : UInt8} {r : Bs} {k m p : Nat} (h : tokC c r = some (k, m)) (hp : m ≤ p + 1) (u : Bs) : tokC c (r.take p ++ 10 :: u) = some (k, m) := by
  unfold tokC at h
  split at h
  · rename_i hl
    split at h
    · rename_i hw
      cases h
      have hr := run_cut true u r p (by omega)
      have ht := take_cut (r := r) (p := p) (10 :: u) (show runL true r ≤ p by omega) (runL_le true r)
      unfold tokC
      rw [if_pos hl, hr, ht, if_pos hw]
    · rename_i hw
      split at h
      · cases h
      · rename_i h32
        cases h
        have hr := run_cut true u r p (by omega)
        have ht := take_cut (r := r) (p := p) (10 :: u) (show runL true r ≤ p by omega) (runL_le true r)
        unfold tokC
        rw [if_pos hl, hr, ht, if_neg hw, if_neg h32]
  · rename_i hl
    split at h
    · rename_i hn
      cases h
      have hr := run_cut false u r p (by omega)
      unfold tokC
      rw [if_neg hl, if_pos hn, hr]
    · rename_i hn
      unfold tokC
      rw [if_neg hl, if_neg hn]
      split at h
      · rename_i h3
        cases h
        match r, p, h3, hp with
        | [], _, h3, _ => simp at h3
        | [a], _, h3, _ => simp at h3
        | a :: b :: r, 0, h3, hp => omega
        | a :: b :: r, 1, h3, hp => omega
        | a :: b :: r, p + 2, h3, _ => rw [if_pos (by simpa using h3)]
      · rename_i h3
        split at h
        · rename_i h2
          cases h
          match r, p, h3, h2, hp with
          | [], _, _, h2, _ => simp [signs2] at h2
          | a :: r, 0, _, _, hp => omega
          | [a], p + 1, h3, h2, _ => rw [if_neg (by simp), if_pos (by simpa using h2)]
          | a :: b :: r, 1, h3, h2, _ => rw [if_neg (by simp), if_pos (by simpa using h2)]
          | a :: b :: r, p + 2, h3, h2, _ => rw [if_neg (by simpa using h3), if_pos (by simpa using h2)]
        · rename_i h2
          split at h
          · rename_i h1
            cases h
            match r, p, h3, h2 with
            | [], _, _, _ => rw [if_neg (by simp), if_neg (by simp [signs2]), if_pos h1]
            | a :: r, 0, _, _ => rw [if_neg (by simp), if_neg (by simp [signs2]), if_pos h1]
            | [a], p + 1, h3, h2 => rw [if_neg (by simp), if_neg (by simpa using h2), if_pos h1]
            | a :: b :: r, 1, h3, h2 => rw [if_neg (by simp), if_neg (by simpa using h2), if_pos h1]
            | a :: b :: r, p + 2, h3, h2 => rw [if_neg (by simpa using h3), if_neg (by simpa using h2), if_pos h1]
          · cases h
theorem sk_t1 {c : UInt8} (hc : (c == 10) = true) (v : Bs) : skipL true (c :: v) = skipL false v + 1 := by
  show (if (c == 10) = true then _ else _) = _
  rw [if_pos hc]
theorem sk_t2 {c : UInt8} (hc : ¬ (c == 10) = true) (v : Bs) : skipL true (c :: v) = skipL true v + 1 := by
  show (if (c == 10) = true then _ else _) = _
  rw [if_neg hc]
theorem sk_f1 {c : UInt8} (hb : (c == 32 || c == 9 || c == 10) = true) (v : Bs) : skipL false (c :: v) = skipL false v + 1 := by
  show (if (c == 32 || c == 9 || c == 10) = true then _ else _) = _
  rw [if_pos hb]
theorem sk_f2 {c : UInt8} (hb : ¬ (c == 32 || c == 9 || c == 10) = true) (hc : (c == 47) = true) (v : Bs) : skipL false (c :: 47 :: v) = skipL true (47 :: v) + 1 := by
  show (if (c == 32 || c == 9 || c == 10) = true then _ else if (c == 47 && (47 :: v).head? == some 47) = true then _ else _) = _
  rw [if_neg hb, if_pos (by rw [hc]; simp)]
theorem sk_f3 {c : UInt8} {r : Bs} (hb : ¬ (c == 32 || c == 9 || c == 10) = true) (hm : ¬ (c == 47 && r.head? == some 47) = true) : skipL false (c :: r) = 0 := by
  show (if (c == 32 || c == 9 || c == 10) = true then _ else if (c == 47 && r.head? == some 47) = true then _ else _) = _
  rw [if_neg hb, if_neg hm]
/-- Past the blanks, and what is put behind them begins with a blank. -/
theorem skip_end (u : Bs) : ∀ (q : Bool) (bs : Bs), skipL q (bs.take (skipL q bs) ++ 10 :: u) = skipL q bs + skipL false (10 :: u)
  | true, [] => by show skipL false u + 1 = 0 + (skipL false u + 1); omega
  | false, [] => by show skipL false u + 1 = 0 + (skipL false u + 1); omega
  | true, c :: r => by
    by_cases hc : (c == 10) = true
    · have e := sk_t1 hc
      rw [e, List.take_succ_cons, List.cons_append, e, skip_end u false r]; omega
    · have e := sk_t2 hc
      rw [e, List.take_succ_cons, List.cons_append, e, skip_end u true r]; omega
  | false, c :: r => by
    by_cases hb : (c == 32 || c == 9 || c == 10) = true
    · have e := sk_f1 hb
      rw [e, List.take_succ_cons, List.cons_append, e, skip_end u false r]; omega
    · by_cases hm : (c == 47 && r.head? == some 47) = true
      · obtain ⟨v, rfl⟩ : ∃ v, r = 47 :: v := by
          cases r with
          | nil => simp at hm
          | cons d v => simp at hm; exact ⟨v, by rw [hm.2]⟩
        have hc : (c == 47) = true := by simp at hm; simpa using hm
        have e := sk_f2 hb hc
        have e2 : ∀ v, skipL true (47 :: v) = skipL true v + 1 := fun v => rfl
        have ih := skip_end u true (47 :: v)
        rw [e2, List.take_succ_cons, List.cons_append, e2] at ih
        rw [e, e2, List.take_succ_cons, List.cons_append, List.take_succ_cons, List.cons_append, e, e2]; omega
      · have e := sk_f3 hb hm
        rw [e, List.take_zero, List.nil_append]; omega
theorem skip_mid (u : Bs) : ∀ (q : Bool) (bs : Bs) (p : Nat), skipL q bs < p → p ≤ bs.length → skipL q (bs.take p ++ 10 :: u) = skipL q bs
  | _, [], p, h1, h2 => by simp at h2; omega
  | _, _ :: _, 0, h1, _ => by omega
  | true, c :: r, p + 1, h1, h2 => by
    rw [List.length_cons] at h2
    by_cases hc : (c == 10) = true
    · have e := sk_t1 hc
      rw [e] at h1
      rw [List.take_succ_cons, List.cons_append, e, e, skip_mid u false r p (by omega) (by omega)]
    · have e := sk_t2 hc
      rw [e] at h1
      rw [List.take_succ_cons, List.cons_append, e, e, skip_mid u true r p (by omega) (by omega)]
  | false, c :: r, p + 1, h1, h2 => by
    rw [List.length_cons] at h2
    by_cases hb : (c == 32 || c == 9 || c == 10) = true
    · have e := sk_f1 hb
      rw [e] at h1
      rw [List.take_succ_cons, List.cons_append, e, e, skip_mid u false r p (by omega) (by omega)]
    · by_cases hm : (c == 47 && r.head? == some 47) = true
      · obtain ⟨v, rfl⟩ : ∃ v, r = 47 :: v := by
          cases r with
          | nil => simp at hm
          | cons d v => simp at hm; exact ⟨v, by rw [hm.2]⟩
        have hc : (c == 47) = true := by simp at hm; simpa using hm
        have e := sk_f2 hb hc
        have e2 : ∀ v, skipL true (47 :: v) = skipL true v + 1 := fun v => rfl
        rw [e, e2] at h1
        obtain ⟨p, rfl⟩ : ∃ x, p = x + 1 := ⟨p - 1, by omega⟩
        have ih := skip_mid u true (47 :: v) (p + 1) (by rw [e2]; omega) (by omega)
        rw [List.take_succ_cons, List.cons_append] at ih
        rw [List.take_succ_cons, List.cons_append, List.take_succ_cons, List.cons_append, e, e, ih]
      · have e := sk_f3 hb hm
        rw [e, List.take_succ_cons, List.cons_append]
        refine sk_f3 hb ?_
        cases r with
        | nil => simp
        | cons d v =>
          cases p with
          | zero => simp
          | succ p => simpa using hm
end Go.Proofs.YtkdpndoollbggaaDoor.Lx
/- DERIVED. The tokens of texts that are cut at a token, or put together. Of no program. By an AI agent. -/
namespace Go.Proofs.YtkdpndoollbggaaDoor.Lx
theorem go_fuel : ∀ (f g : Nat) (bs : Bs) (i n : Nat), bs.length < f → bs.length < g → goL f bs i n = goL g bs i n
  | 0, _, _, _, _, h, _ => by omega
  | _ + 1, 0, _, _, _, _, h => by omega
  | f + 1, g + 1, [], i, n, _, _ => rfl
  | f + 1, g + 1, c :: r, i, n, hf, hg => by
    rcases ht : tokC c r with _ | ⟨k, m⟩
    · rw [goL_none ht, goL_none ht]
    · rw [goL_some ht, goL_some ht, go_fuel f g _ _ _ (rest_len ht hf) (rest_len ht hg)]
/-- A text's tokens, from place i on, n being there. -/
def gC (bs : Bs) (i n : Nat) : Wd := goL (bs.length + 1) (restL bs) (i + skipL false bs) n
theorem words_gC {s : Bs} (h : s.length ≤ 20000) : wordsL s = gC s 0 0 := by
  unfold wordsL gC restL
  rw [if_neg (by omega), Nat.zero_add]
theorem gC_of (bs : Bs) (i n f : Nat) (hf : (restL bs).length < f) : goL f (restL bs) (i + skipL false bs) n = gC bs i n :=
  go_fuel f _ _ _ _ hf (by have := rest_le bs; omega)
theorem gC_nil {bs : Bs} (h : restL bs = []) (i n : Nat) : gC bs i n = if n = 4000 then ⟨[], i + skipL false bs, 150⟩ else ⟨[⟨0, [], i + skipL false bs⟩], 0, 0⟩ := by
  unfold gC; rw [h]; rfl
theorem gC_none {bs r : Bs} {c : UInt8} (h : restL bs = c :: r) (ht : tokC c r = none) (i n : Nat) : gC bs i n = ⟨[], i + skipL false bs, 100⟩ := by
  unfold gC; rw [h, goL_none ht]
theorem gC_some {bs r : Bs} {c : UInt8} {k m : Nat} (h : restL bs = c :: r) (ht : tokC c r = some (k, m)) (i n : Nat) :
    gC bs i n = if n = 4000 then ⟨[], i + skipL false bs, 150⟩ else Wd.cons ⟨k, (c :: r).take m, i + skipL false bs⟩ (gC ((c :: r).drop m) (i + skipL false bs + m) (n + 1)) := by
  have hl := rest_le bs
  have hm := rest_len ht (f := bs.length) (by rw [← h]; omega)
  unfold gC
  rw [h, goL_some ht, go_fuel bs.length (((c :: r).drop m).length + 1) _ _ _ hm (by have := rest_le ((c :: r).drop m); omega)]
theorem cons_ok {t : Tk} {w : Wd} (h : (Wd.cons t w).er = 0) : w.er = 0 ∧ Wd.cons t w = ⟨t :: w.l, w.at_, 0⟩ := by
  unfold Wd.cons at h ⊢
  split at h
  · rename_i h0; rw [if_pos h0]; exact ⟨h0, by rw [h0]⟩
  · rename_i h0; exact absurd h h0
theorem cons_is {t : Tk} {w : Wd} (h : w.er = 0) : Wd.cons t w = ⟨t :: w.l, w.at_, 0⟩ := by unfold Wd.cons; rw [if_pos h, h]
theorem gC_ok {bs : Bs} {i n : Nat} (h : (gC bs i n).er = 0) :
    (restL bs = [] ∧ n ≠ 4000 ∧ gC bs i n = ⟨[⟨0, [], i + skipL false bs⟩], 0, 0⟩) ∨
    ∃ c r k m, restL bs = c :: r ∧ tokC c r = some (k, m) ∧ n ≠ 4000 ∧ (gC ((c :: r).drop m) (i + skipL false bs + m) (n + 1)).er = 0 ∧
      gC bs i n = ⟨⟨k, (c :: r).take m, i + skipL false bs⟩ :: (gC ((c :: r).drop m) (i + skipL false bs + m) (n + 1)).l, (gC ((c :: r).drop m) (i + skipL false bs + m) (n + 1)).at_, 0⟩ := by
  rcases hr : restL bs with _ | ⟨c, r⟩
  · rw [gC_nil hr] at h ⊢
    by_cases hn : n = 4000
    · rw [if_pos hn] at h; exact absurd h (by show ¬ (150 : Nat) = 0; decide)
    · rw [if_neg hn]; exact .inl ⟨rfl, hn, rfl⟩
  · rcases ht : tokC c r with _ | ⟨k, m⟩
    · rw [gC_none hr ht] at h; exact absurd h (by show ¬ (100 : Nat) = 0; decide)
    · rw [gC_some hr ht] at h ⊢
      by_cases hn : n = 4000
      · rw [if_pos hn] at h; exact absurd h (by show ¬ (150 : Nat) = 0; decide)
      · rw [if_neg hn] at h ⊢
        obtain ⟨h1, h2⟩ := cons_ok h
        exact .inr ⟨c, r, k, m, rfl, ht, hn, h1, h2⟩
/-- Tokens ahead of others. -/
def preW (l : List Tk) (w : Wd) : Wd := l.foldr Wd.cons w
theorem gC_ins (bs u : Bs) (i n : Nat) : gC (bs.take (skipL false bs) ++ 10 :: u) i n = gC (10 :: u) (i + skipL false bs) n := by
  have hs := skip_end u false bs
  have hl : (bs.take (skipL false bs)).length = skipL false bs := by rw [List.length_take]; have := skipL_le false bs; omega
  have hr : restL (bs.take (skipL false bs) ++ 10 :: u) = restL (10 :: u) := by
    have e := congrArg (List.drop (skipL false (10 :: u))) (List.drop_left' (l₂ := 10 :: u) hl)
    rw [List.drop_drop] at e
    unfold restL
    rw [hs]
    exact e
  rw [← gC_of (10 :: u) _ _ ((bs.take (skipL false bs) ++ 10 :: u).length + 1) (by have := rest_le (10 :: u); rw [List.length_append]; omega)]
  unfold gC
  rw [hr, hs, Nat.add_assoc]
theorem gC_rest {bs : Bs} (h : skipL false (restL bs) = 0) (i n : Nat) : gC bs i n = gC (restL bs) (i + skipL false bs) n := by
  have hr : restL (restL bs) = restL bs := by conv => lhs; rw [restL, h, List.drop_zero]
  rw [← gC_of (restL bs) _ _ (bs.length + 1) (by have := rest_le bs; rw [hr]; omega), hr, h]
  rfl
/-- A text cut at a token: what is ahead is as it was. -/
theorem gC_pre : ∀ (N : Nat) (bs : Bs) (i n : Nat), bs.length ≤ N → (gC bs i n).er = 0 → ∀ (j : Nat) (t : Tk), (gC bs i n).l[j]? = some t →
    i + skipL false bs ≤ t.at_ ∧ t.at_ ≤ i + bs.length ∧ (∀ u, gC (bs.take (t.at_ - i) ++ 10 :: u) i n = preW ((gC bs i n).l.take j) (gC (10 :: u) t.at_ (n + j))) ∧
      gC bs i n = preW ((gC bs i n).l.take j) (gC (bs.drop (t.at_ - i)) t.at_ (n + j)) ∧ skipL false (bs.drop (t.at_ - i)) = 0 := by
  intro N
  induction N with
  | zero =>
    intro bs i n hN h j t hj
    obtain rfl : bs = [] := List.eq_nil_of_length_eq_zero (by omega)
    rcases gC_ok h with ⟨hr, hn, e⟩ | ⟨c, r, k, m, hr, _⟩
    · rw [e] at hj ⊢
      cases j with
      | succ j => simp at hj
      | zero =>
        have ht : t = ⟨0, [], i + skipL false []⟩ := by simpa using hj.symm
        subst ht
        have hs : i + skipL false [] - i = skipL false [] := by omega
        exact ⟨Nat.le_refl _, Nat.le_refl i, fun u => by rw [hs]; exact gC_ins [] u i n, by rw [hs]; exact e.symm, by rw [List.drop_nil]; rfl⟩
    · cases hr
  | succ N ih =>
    intro bs i n hN h j t hj
    have hP := skipL_le false bs
    rcases gC_ok h with ⟨hr, hn, e⟩ | ⟨c, r, k, m, hr, ht, hn, hw, e⟩
    · have hs0 : skipL false (restL bs) = 0 := by rw [hr]; rfl
      have he := gC_rest hs0 i n
      have hs : i + skipL false bs - i = skipL false bs := by omega
      rw [e] at hj
      cases j with
      | succ j => simp at hj
      | zero =>
        have ht : t = ⟨0, [], i + skipL false bs⟩ := by simpa using hj.symm
        subst ht
        refine ⟨Nat.le_refl _, by show i + _ ≤ _; omega, fun u => ?_, ?_, ?_⟩
        · show gC (bs.take (i + skipL false bs - i) ++ 10 :: u) i n = _
          rw [hs]; exact gC_ins bs u i n
        · show gC bs i n = gC (bs.drop (i + skipL false bs - i)) (i + skipL false bs) (n + 0)
          rw [hs]; exact he
        · show skipL false (bs.drop (i + skipL false bs - i)) = 0
          rw [hs]; exact hs0
    · have hs0 : skipL false (restL bs) = 0 := by rw [hr]; exact tok_skip ht _
      have he := gC_rest hs0 i n
      have hs : i + skipL false bs - i = skipL false bs := by omega
      have hm := tok_len ht
      have hrl : (c :: r).length = bs.length - skipL false bs := by rw [← hr]; unfold restL; rw [List.length_drop]
      cases j with
      | zero =>
        rw [e] at hj
        have ht : t = ⟨k, (c :: r).take m, i + skipL false bs⟩ := by simpa using hj.symm
        subst ht
        refine ⟨Nat.le_refl _, by show i + _ ≤ _; omega, fun u => ?_, ?_, ?_⟩
        · show gC (bs.take (i + skipL false bs - i) ++ 10 :: u) i n = _
          rw [hs]; exact gC_ins bs u i n
        · show gC bs i n = gC (bs.drop (i + skipL false bs - i)) (i + skipL false bs) (n + 0)
          rw [hs]; exact he
        · show skipL false (bs.drop (i + skipL false bs - i)) = 0
          rw [hs]; exact hs0
      | succ j =>
        have hj2 : (gC ((c :: r).drop m) (i + skipL false bs + m) (n + 1)).l[j]? = some t := by rw [e] at hj; simpa using hj
        have hd : ((c :: r).drop m).length = (c :: r).length - m := List.length_drop
        obtain ⟨a1, a2, a3, a4, a5⟩ := ih ((c :: r).drop m) (i + skipL false bs + m) (n + 1) (by omega) hw j t hj2
        have hp : skipL false bs + m ≤ t.at_ - i := by omega
        have hx : t.at_ - i ≤ bs.length := by omega
        obtain ⟨p, hpp⟩ : ∃ p, t.at_ - i = skipL false bs + (p + 1) := ⟨t.at_ - i - skipL false bs - 1, by omega⟩
        have hdr : bs.drop (t.at_ - i) = ((c :: r).drop m).drop (t.at_ - (i + skipL false bs + m)) := by
          rw [← hr, restL, List.drop_drop, List.drop_drop]; congr 1; omega
        refine ⟨by omega, by omega, fun u => ?_, ?_, by rw [hdr]; exact a5⟩
        · have hsm := skip_mid u false bs (t.at_ - i) (by omega) hx
          have hr2 : restL (bs.take (t.at_ - i) ++ 10 :: u) = c :: (r.take p ++ 10 :: u) := by
            unfold restL at hr ⊢
            rw [hsm, List.drop_append_of_le_length (by rw [List.length_take]; omega), List.drop_take, hr, hpp, Nat.add_sub_cancel_left, List.take_succ_cons, List.cons_append]
          have ht2 := tok_cut (p := p) ht (by omega) u
          have htake : (c :: (r.take p ++ 10 :: u)).take m = (c :: r).take m := by
            obtain ⟨q, rfl⟩ : ∃ q, m = q + 1 := ⟨m - 1, by omega⟩
            rw [List.take_succ_cons, List.take_succ_cons, take_cut (10 :: u) (by omega) (by have := hm.2.1; simp at this; omega)]
          have hdrop : (c :: (r.take p ++ 10 :: u)).drop m = ((c :: r).drop m).take (t.at_ - (i + skipL false bs + m)) ++ 10 :: u := by
            obtain ⟨q, rfl⟩ : ∃ q, m = q + 1 := ⟨m - 1, by omega⟩
            have hq : q ≤ r.length := by have := hm.2.1; simp at this; omega
            rw [List.drop_succ_cons, List.drop_succ_cons, List.drop_append_of_le_length (by rw [List.length_take]; omega), List.drop_take]
            congr 2
            omega
          rw [gC_some hr2 ht2, if_neg hn, hsm, htake, hdrop, a3 u, e, List.take_succ_cons]
          show Wd.cons _ (preW _ _) = Wd.cons _ (preW _ _)
          rw [show n + 1 + j = n + (j + 1) by omega]
        · rw [hdr]
          conv => lhs; rw [gC_some hr ht, if_neg hn, a4]
          rw [e, List.take_succ_cons]
          show Wd.cons _ (preW _ _) = Wd.cons _ (preW _ _)
          rw [show n + 1 + j = n + (j + 1) by omega]
end Go.Proofs.YtkdpndoollbggaaDoor.Lx
/- DERIVED. The words of a text with blanks put in at a token, and of two texts one behind the other. Of no program. By an AI agent. -/
namespace Go.Proofs.YtkdpndoollbggaaDoor.Lx
theorem strip_cons (t : Tk) (l : List Tk) : strip (t :: l) = (t.k, t.s) :: strip l := rfl
theorem strip_app (a b : List Tk) : strip (a ++ b) = strip a ++ strip b := List.map_append
theorem strip_len (l : List Tk) : (strip l).length = l.length := List.length_map _
theorem cons_cong {t t' : Tk} {w w' : Wd} (hk : t.k = t'.k) (hs : t.s = t'.s) (he : w.er = w'.er) (hl : strip w.l = strip w'.l) : (Wd.cons t w).er = (Wd.cons t' w').er ∧ strip (Wd.cons t w).l = strip (Wd.cons t' w').l := by
  unfold Wd.cons
  by_cases h : w.er = 0
  · rw [if_pos h, if_pos (he ▸ h)]
    exact ⟨he, by rw [strip_cons, strip_cons, hk, hs, hl]⟩
  · rw [if_neg h, if_neg (he ▸ h)]
    exact ⟨he, hl⟩
/-- Places change nothing else. -/
theorem go_place : ∀ (f : Nat) (bs : Bs) (i i' n : Nat), (goL f bs i n).er = (goL f bs i' n).er ∧ strip (goL f bs i n).l = strip (goL f bs i' n).l
  | 0, _, _, _, _ => ⟨rfl, rfl⟩
  | f + 1, [], i, i', n => by
    show (if n = 4000 then (⟨[], i, 150⟩ : Wd) else ⟨[⟨0, [], i⟩], 0, 0⟩).er = (if n = 4000 then (⟨[], i', 150⟩ : Wd) else ⟨[⟨0, [], i'⟩], 0, 0⟩).er ∧ strip (if n = 4000 then (⟨[], i, 150⟩ : Wd) else ⟨[⟨0, [], i⟩], 0, 0⟩).l = strip (if n = 4000 then (⟨[], i', 150⟩ : Wd) else ⟨[⟨0, [], i'⟩], 0, 0⟩).l
    by_cases hn : n = 4000
    · rw [if_pos hn, if_pos hn]; exact ⟨rfl, rfl⟩
    · rw [if_neg hn, if_neg hn]; exact ⟨rfl, rfl⟩
  | f + 1, c :: r, i, i', n => by
    rcases ht : tokC c r with _ | ⟨k, m⟩
    · rw [goL_none ht, goL_none ht]; exact ⟨rfl, rfl⟩
    · rw [goL_some ht, goL_some ht]
      by_cases hn : n = 4000
      · rw [if_pos hn, if_pos hn]; exact ⟨rfl, rfl⟩
      · rw [if_neg hn, if_neg hn]
        have ih := go_place f (restL ((c :: r).drop m)) (i + m + skipL false ((c :: r).drop m)) (i' + m + skipL false ((c :: r).drop m)) (n + 1)
        exact cons_cong rfl rfl ih.1 ih.2
/-- How many tokens are there already matters only where they are too many. -/
theorem go_count : ∀ (f : Nat) (bs : Bs) (i n : Nat), bs.length < f → (goL f bs i n).er = 0 → ∀ n', n' ≤ 4000 →
    (n' + (goL f bs i n).l.length ≤ 4000 → goL f bs i n' = goL f bs i n) ∧ (4000 < n' + (goL f bs i n).l.length → (goL f bs i n').er = 150)
  | 0, _, _, _, h, _ => by omega
  | f + 1, [], i, n, hf, h => fun n' hn' => by
    have e : ∀ n, goL (f + 1) [] i n = if n = 4000 then ⟨[], i, 150⟩ else ⟨[⟨0, [], i⟩], 0, 0⟩ := fun _ => rfl
    by_cases hn : n = 4000
    · rw [e, if_pos hn] at h; exact absurd h (by show ¬ (150 : Nat) = 0; decide)
    · rw [e n, if_neg hn, e n']
      refine ⟨fun hl => ?_, fun hl => ?_⟩
      · rw [if_neg (by simp at hl; omega)]
      · rw [if_pos (by simp at hl; omega)]
  | f + 1, c :: r, i, n, hf, h => fun n' hn' => by
    rcases ht : tokC c r with _ | ⟨k, m⟩
    · rw [goL_none ht] at h; exact absurd h (by show ¬ (100 : Nat) = 0; decide)
    · have hl := rest_len ht hf
      rw [goL_some ht] at h ⊢
      by_cases hn : n = 4000
      · rw [if_pos hn] at h; exact absurd h (by show ¬ (150 : Nat) = 0; decide)
      · rw [if_neg hn] at h ⊢
        obtain ⟨h1, h2⟩ := cons_ok h
        rw [h2, goL_some ht]
        have ih := fun n'' => go_count f _ _ (n + 1) hl h1 n''
        rw [List.length_cons]
        by_cases hn2 : n' = 4000
        · rw [if_pos hn2]
          exact ⟨fun hx => by omega, fun _ => rfl⟩
        · rw [if_neg hn2]
          obtain ⟨a1, a2⟩ := ih (n' + 1) (by omega)
          refine ⟨fun hx => ?_, fun hx => ?_⟩
          · rw [a1 (by omega), cons_is h1]
          · have := a2 (by omega)
            rw [cons_er (by rw [this]; decide)]; exact this
theorem go_len : ∀ (f : Nat) (bs : Bs) (i n : Nat), bs.length < f → (goL f bs i n).er = 0 → n ≤ 4000 → n + (goL f bs i n).l.length ≤ 4000
  | 0, _, _, _, h, _, _ => by omega
  | f + 1, bs, i, n, hf, h, hn => by
    rcases go_ok (f + 1) bs i n hf h with ⟨rfl, hn2, e⟩ | ⟨c, r, k, m, rfl, ht, hn2, hw, e, hl⟩
    · rw [e]; show n + 1 ≤ 4000; omega
    · have := go_len f _ _ (n + 1) hl hw (by omega)
      rw [e, List.length_cons]
      simp only [Nat.add_sub_cancel] at this ⊢
      omega
theorem preW_ok : ∀ (l : List Tk) {w : Wd}, w.er = 0 → (preW l w).er = 0 ∧ (preW l w).l = l ++ w.l
  | [], w, h => ⟨h, rfl⟩
  | t :: l, w, h => by
    have ih := preW_ok l h
    show (Wd.cons t (preW l w)).er = 0 ∧ (Wd.cons t (preW l w)).l = _
    rw [cons_is ih.1]
    exact ⟨rfl, by show t :: _ = _; rw [ih.2]; rfl⟩
theorem preW_bad : ∀ (l : List Tk) {w : Wd}, w.er ≠ 0 → preW l w = w
  | [], w, h => rfl
  | t :: l, w, h => by
    show Wd.cons t (preW l w) = w
    rw [preW_bad l h, cons_er h]
theorem preW_cong : ∀ (l : List Tk) {w w' : Wd}, w.er = w'.er → strip w.l = strip w'.l → (preW l w).er = (preW l w').er ∧ strip (preW l w).l = strip (preW l w').l
  | [], _, _, he, hl => ⟨he, hl⟩
  | t :: l, w, w', he, hl => by
    have ih := preW_cong l he hl
    exact cons_cong rfl rfl ih.1 ih.2
theorem gC_ne {bs : Bs} {i n : Nat} (h : (gC bs i n).er = 0) : (gC bs i n).l ≠ [] := by
  rcases gC_ok h with ⟨_, _, e⟩ | ⟨_, _, _, _, _, _, _, _, e⟩ <;> rw [e] <;> exact List.cons_ne_nil _ _
/-- Blanks put in at a token. -/
theorem words_blank (s v : Bs) (hs : s.length + (v.length + 1) ≤ 20000) (h : (wordsL s).er = 0) (j : Nat) (t : Tk) (hj : (wordsL s).l[j]? = some t) (hv : ∀ r, skipL false (10 :: (v ++ r)) = v.length + 1 + skipL false r) :
    (wordsL (s.take t.at_ ++ 10 :: (v ++ s.drop t.at_))).er = 0 ∧ strip (wordsL (s.take t.at_ ++ 10 :: (v ++ s.drop t.at_))).l = strip (wordsL s).l := by
  have hl : (s.take t.at_ ++ 10 :: (v ++ s.drop t.at_)).length ≤ 20000 := by
    simp only [List.length_append, List.length_cons, List.length_take, List.length_drop]; omega
  have hs2 : s.length ≤ 20000 := by omega
  rw [words_gC hs2] at h hj ⊢
  rw [words_gC hl]
  obtain ⟨_, _, a3, a4, a5⟩ := gC_pre s.length s 0 0 (Nat.le_refl _) h j t hj
  simp only [Nat.sub_zero] at a3 a4 a5
  have hr : restL (10 :: (v ++ s.drop t.at_)) = s.drop t.at_ := by
    unfold restL
    rw [hv, a5, Nat.add_zero, List.drop_succ_cons, List.drop_append_of_le_length (Nat.le_refl _), List.drop_length, List.nil_append]
  have hr2 : restL (s.drop t.at_) = s.drop t.at_ := by unfold restL; rw [a5, List.drop_zero]
  have e1 : gC (10 :: (v ++ s.drop t.at_)) t.at_ (0 + j) = goL ((s.drop t.at_).length + 1) (s.drop t.at_) (t.at_ + skipL false (10 :: (v ++ s.drop t.at_))) (0 + j) := by
    rw [← gC_of _ _ _ ((s.drop t.at_).length + 1) (by rw [hr]; omega), hr]
  have e2 : gC (s.drop t.at_) t.at_ (0 + j) = goL ((s.drop t.at_).length + 1) (s.drop t.at_) (t.at_ + 0) (0 + j) := by
    rw [← gC_of _ _ _ ((s.drop t.at_).length + 1) (by rw [hr2]; omega), hr2, a5]
  have hp := go_place ((s.drop t.at_).length + 1) (s.drop t.at_) (t.at_ + skipL false (10 :: (v ++ s.drop t.at_))) (t.at_ + 0) (0 + j)
  rw [← e1, ← e2] at hp
  have hc := preW_cong ((gC s 0 0).l.take j) hp.1 hp.2
  rw [← a4, ← a3] at hc
  exact ⟨hc.1.trans h, hc.2⟩
/-- Two texts, a line feed between them. -/
theorem words_two (s t : Bs) (hl : s.length + (t.length + 1) ≤ 20000) (hs : (wordsL s).er = 0) (ht : (wordsL t).er = 0) :
    ((wordsL s).l.length - 1 + (wordsL t).l.length ≤ 4000 → (wordsL (s ++ 10 :: t)).er = 0 ∧ strip (wordsL (s ++ 10 :: t)).l = strip (wordsL s).l.dropLast ++ strip (wordsL t).l) ∧
    (4000 < (wordsL s).l.length - 1 + (wordsL t).l.length → (wordsL (s ++ 10 :: t)).er = 150) := by
  have hlen : (s ++ 10 :: t).length ≤ 20000 := by rw [List.length_append, List.length_cons]; omega
  rw [words_gC (by omega)] at hs ht
  rw [words_gC (s := s) (by omega), words_gC (s := t) (by omega), words_gC hlen]
  have hne := gC_ne hs
  obtain ⟨N, hN⟩ : ∃ N, (gC s 0 0).l.length = N + 1 := ⟨(gC s 0 0).l.length - 1, by have := List.length_pos_iff.2 hne; omega⟩
  obtain ⟨e, he⟩ : ∃ e, (gC s 0 0).l[N]? = some e := ⟨_, List.getElem?_eq_getElem (by omega)⟩
  obtain ⟨_, a2, a3, a4, a5⟩ := gC_pre s.length s 0 0 (Nat.le_refl _) hs N e he
  simp only [Nat.sub_zero] at a3 a4 a5
  have h4000 : N ≤ 4000 ∧ e.at_ = s.length := by
    refine ⟨?_, ?_⟩
    · have := go_len (s.length + 1) (restL s) (0 + skipL false s) 0 (by have := rest_le s; omega) hs (by omega)
      have h2 : (goL (s.length + 1) (restL s) (0 + skipL false s) 0).l.length = N + 1 := hN
      omega
    · have hr0 : (gC (s.drop e.at_) e.at_ (0 + N)).er = 0 := Decidable.byContradiction fun hx => by
        rw [preW_bad _ hx] at a4
        exact hx (a4 ▸ hs)
      have hq := (preW_ok ((gC s 0 0).l.take N) hr0).2
      rw [← a4] at hq
      have hq2 := congrArg List.length hq
      rw [List.length_append, List.length_take, hN] at hq2
      rcases gC_ok hr0 with ⟨hr, _, _⟩ | ⟨c, r, k, m, _, _, _, hw, e3⟩
      · have : s.drop e.at_ = [] := by
          unfold restL at hr
          rw [a5, List.drop_zero] at hr
          exact hr
        have := congrArg List.length this
        rw [List.length_drop] at this
        simp at this
        omega
      · have := List.length_pos_iff.2 (gC_ne hw)
        rw [e3, List.length_cons] at hq2
        omega
  have hst : s.take e.at_ = s := by rw [h4000.2, List.take_length]
  have hdl : (gC s 0 0).l.take N = (gC s 0 0).l.dropLast := by rw [List.dropLast_eq_take, hN]; rfl
  have ha3 := a3 t
  rw [hst, hdl] at ha3
  have hsk : skipL false (10 :: t) = skipL false t + 1 := rfl
  have hrt : restL (10 :: t) = restL t := by unfold restL; rw [hsk]; rfl
  have e1 : gC (10 :: t) e.at_ (0 + N) = goL (t.length + 1) (restL t) (e.at_ + skipL false (10 :: t)) (0 + N) := by
    rw [← gC_of _ _ _ (t.length + 1) (by rw [hrt]; have := rest_le t; omega), hrt]
  have hp := go_place (t.length + 1) (restL t) (e.at_ + skipL false (10 :: t)) (0 + skipL false t) (0 + N)
  obtain ⟨c1, c2⟩ := go_count (t.length + 1) (restL t) (0 + skipL false t) 0 (by have := rest_le t; omega) ht (0 + N) (by omega)
  rw [← e1] at hp
  rw [hN, Nat.add_sub_cancel]
  refine ⟨fun hx => ?_, fun hx => ?_⟩
  · have c3 := c1 (by show 0 + N + (gC t 0 0).l.length ≤ 4000; omega)
    rw [c3] at hp
    have hp1 : (gC (10 :: t) e.at_ (0 + N)).er = 0 := hp.1.trans ht
    have hq := preW_ok ((gC s 0 0).l.dropLast) hp1
    rw [ha3]
    exact ⟨hq.1, by rw [hq.2, strip_app, hp.2]; rfl⟩
  · have c3 := c2 (by show 4000 < 0 + N + (gC t 0 0).l.length; omega)
    rw [c3] at hp
    rw [ha3, preW_bad _ (by rw [hp.1]; decide)]
    exact hp.1
end Go.Proofs.YtkdpndoollbggaaDoor.Lx
