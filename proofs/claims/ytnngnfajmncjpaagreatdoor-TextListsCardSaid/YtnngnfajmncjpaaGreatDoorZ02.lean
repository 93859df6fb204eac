/- DERIVED. TxOne, TxMarks in one text. By an AI agent. -/
import Derived.Test.YtnngnfajmncjpaaGreatDoorZ01
/- DERIVED. Plain facts: no two instructions have one text; the numbers that stand in a text; lines. By an AI agent. -/
namespace Go.Proofs.YtnngnfajmncjpaaGreatDoor.Tx
open Go.Lib
set_option linter.unusedVariables false
/-- A text without its digits and signs. -/
def isNum (x : UInt8) : Bool := x == 45 || (48 ≤ x.toNat && x.toNat ≤ 57)
def skel (l : Txt) : Txt := l.filter fun x => !isNum x
theorem skel_app (a b : Txt) : skel (a ++ b) = skel a ++ skel b := List.filter_append ..
theorem skel_itoa (v : Int) : skel (itoa v) = [] := by
  unfold skel
  rw [List.filter_eq_nil_iff]
  intro x hx
  have h := (itoa_stp v x hx).2
  have : isNum x = true := by
    unfold isNum
    simp only [Bool.or_eq_true, beq_iff_eq, Bool.and_eq_true, decide_eq_true_eq]
    rcases h with h | h
    · exact Or.inl (UInt8.toNat_inj.1 h)
    · exact Or.inr h
  simp [this]
/-- The skeleton of a shape. -/
def skS : Txt → Nm → Txt
  | [], _ => []
  | c :: r, s => (match plc c with | some p => (if p.ws = [] then [p.mark] else skel (p.ws[(s.get p.of).toNat]?.getD [])) | none => skel [c]) ++ skS r s
theorem skel_wr : ∀ (sh : Txt) (s : Nm), skel (wr sh s) = skS sh s
  | [], _ => rfl
  | c :: r, s => by
    unfold wr skS
    rw [skel_app, skel_wr r s]
    congr 1
    cases hc : plc c with
    | none => rfl
    | some p =>
      simp only
      unfold Pl.show
      split
      · have hm : isNum p.mark = false := by
          unfold plc at hc
          repeat' (split at hc)
          all_goals first | (cases hc; rfl) | cases hc
        show skel (p.mark :: itoa _) = _
        have : skel (p.mark :: itoa (p.times * s.get p.of)) = p.mark :: skel (itoa (p.times * s.get p.of)) := by
          unfold skel
          rw [List.filter_cons, hm]
          rfl
        rw [this, skel_itoa]
      · rfl
/-- The skeleton hangs on the sort, what an Alu does and the condition alone. -/
def skK (k a : Nat) : Txt := skS (shpN k) (if k = 18 then ⟨a, 0, 0, 0⟩ else ⟨0, 0, 0, a⟩)
def aOf (k : Nat) (s : Nm) : Nat := if k = 11 then s.i.toNat else if k = 18 then s.d.toNat else 0
theorem sk_of {k : Nat} {s : Nm} (h : Okk k s) : skS (shpN k) s = skK k (aOf k s) := by
  obtain ⟨d, n, m, i⟩ := s
  have hk := h.hk
  have i0 := h.i0; have d0 := h.d0
  clear h
  simp only at i0 d0
  have L : ∀ j < 21, k = j → skS (shpN k) ⟨d, n, m, i⟩ = skK k (aOf k ⟨d, n, m, i⟩) := by
    intro j hj e
    subst e
    match k, hj with
    | 0, _ => rfl
    | 1, _ => rfl
    | 2, _ => rfl
    | 3, _ => rfl
    | 4, _ => rfl
    | 5, _ => rfl
    | 6, _ => rfl
    | 7, _ => rfl
    | 8, _ => rfl
    | 9, _ => rfl
    | 10, _ => rfl
    | 11, _ =>
      obtain ⟨x, rfl⟩ := Int.eq_ofNat_of_zero_le (show 0 ≤ i from i0)
      rfl
    | 12, _ => rfl
    | 13, _ => rfl
    | 14, _ => rfl
    | 15, _ => rfl
    | 16, _ => rfl
    | 17, _ => rfl
    | 18, _ =>
      obtain ⟨x, rfl⟩ := Int.eq_ofNat_of_zero_le d0
      rfl
    | 19, _ => rfl
    | 20, _ => rfl
    | _ + 21, hj => omega
  exact L k hk rfl
def aHi (k : Nat) : Nat := if k = 11 then 16 else if k = 18 then 14 else 1
def sks : List (Nat × Nat) := (List.range 21).flatMap fun k => (List.range (aHi k)).map fun a => (k, a)
theorem sk_one : ∀ x ∈ sks, ∀ y ∈ sks, skK x.1 x.2 = skK y.1 y.2 → x = y := by decide +kernel
theorem a_lt {k : Nat} {s : Nm} (h : Okk k s) : aOf k s < aHi k := by
  unfold aOf aHi
  split
  · rename_i e; subst e
    have i1 := h.i1; simp [iHi] at i1; omega
  · split
    · rename_i e; subst e
      have d1 := h.d1; simp [dHi] at d1; omega
    · omega
theorem in_sks {k : Nat} {s : Nm} (h : Okk k s) : (k, aOf k s) ∈ sks := by
  unfold sks
  rw [List.mem_flatMap]
  exact ⟨k, List.mem_range.2 h.hk, List.mem_map.2 ⟨aOf k s, List.mem_range.2 (a_lt h), rfl⟩⟩
/-- No two instructions have one text. -/
theorem show_one {k j : Nat} {s t : Nm} (h : Okk k s) (g : Okk j t) (e : showL k s = showL j t) : k = j ∧ s = t := by
  have e1 : skS (shpN k) s = skS (shpN j) t := by rw [← skel_wr, ← skel_wr]; exact congrArg skel e
  rw [sk_of h, sk_of g] at e1
  have e2 := sk_one _ (in_sks h) _ (in_sks g) e1
  obtain rfl : k = j := (Prod.mk.inj e2).1
  have a := rd_show h
  rw [e, rd_show g] at a
  exact ⟨rfl, (Option.some.inj a).symm⟩
/-! The numbers that stand in a text: behind each r or # a sign and digits, six at most. -/
def dgB (x : UInt8) : Bool := 48 ≤ x.toNat && x.toNat ≤ 57
/-- At most n digits, reckoned on from acc; what is left. -/
def dgs : Nat → Txt → Nat → Nat × Txt
  | 0, l, acc => (acc, l)
  | _, [], acc => (acc, [])
  | n + 1, x :: l, acc => if dgB x then dgs n l (acc * 10 + (x.toNat - 48)) else (acc, x :: l)
/-- What stands behind a mark: a number, if there are digits. -/
def mk1 (l : Txt) : Option Int :=
  match l with
  | [] => none
  | x :: r => if x = 45 then (match r with | [] => none | y :: _ => if dgB y then some (-((dgs 6 r 0).1 : Int)) else none) else if dgB x then some ((dgs 6 l 0).1 : Int) else none
def marks : Txt → List Int
  | [] => []
  | x :: l => if x = 114 ∨ x = 35 then (match mk1 l with | some v => v :: marks l | none => marks l) else marks l
/-- A text in which no mark stands has no numbers. -/
def plainB (l : Txt) : Bool := l.all fun x => !(x == 114 || x == 35)
theorem marks_plain : ∀ (a l : Txt), plainB a = true → marks (a ++ l) = marks l
  | [], _, _ => rfl
  | x :: a, l, h => by
    unfold plainB at h
    rw [List.all_cons, Bool.and_eq_true] at h
    obtain ⟨h1, h2⟩ := h
    simp only [Bool.not_eq_true', Bool.or_eq_false_iff, beq_eq_false_iff_ne, ne_eq] at h1
    rw [List.cons_append, marks, if_neg (by rintro (e | e); exact h1.1 e; exact h1.2 e)]
    exact marks_plain a l h2
theorem dgB_of (x : UInt8) (h : 48 ≤ x.toNat ∧ x.toNat ≤ 57) : dgB x = true := by
  unfold dgB
  simp [h.1, h.2]
/-- Digits, then what is none (or an end): they are reckoned whole. -/
theorem dgs_all : ∀ (l : Txt) (n acc u : Nat) (b : Txt), (∀ x ∈ l, 48 ≤ x.toNat ∧ x.toNat ≤ 57) → l.length ≤ n → (b = [] ∨ ∃ x r, b = x :: r ∧ dgB x = false) → parseUint10 acc l = .ok u → dgs n (l ++ b) acc = (u, b)
  | [], n, acc, u, b, _, _, hb, h => by
    simp only [parseUint10, NumEnd.ok.injEq] at h
    subst h
    rcases hb with rfl | ⟨x, r, rfl, hx⟩
    · cases n <;> rfl
    · cases n with
      | zero => rfl
      | succ n => simp [dgs, hx]
  | x :: l, 0, _, _, _, _, hl, _, _ => by simp at hl
  | x :: l, n + 1, acc, u, b, hd, hl, hb, h => by
    have hx := hd x (by simp)
    simp only [parseUint10] at h
    rw [List.cons_append, dgs, dgB_of x hx, if_pos rfl]
    rw [if_pos hx] at h
    by_cases g1 : 1844674407370955162 ≤ acc
    · rw [if_pos g1] at h; exact nomatch h
    · rw [if_neg g1] at h
      by_cases g2 : 18446744073709551616 ≤ acc * 10 + (x.toNat - 48)
      · rw [if_pos g2] at h; exact nomatch h
      · rw [if_neg g2] at h
        exact dgs_all l n _ u b (fun y hy => hd y (by simp [hy])) (by simpa using hl) hb h
theorem dec_len (u : Nat) (h : u ≤ 100000) : (decDigits u).length ≤ 6 := by
  rw [decDigits_length]
  have hlt : ∀ k, u < 10 ^ k → nDigits u ≤ k ∨ k = 0 := by
    intro k hk
    by_cases h0 : k = 0
    · exact Or.inr h0
    · left
      by_cases hn : nDigits u ≤ k
      · exact hn
      · exfalso
        obtain ⟨j, hj⟩ : ∃ j, nDigits u = j + 1 := ⟨nDigits u - 1, by have := nDigits_pos u; omega⟩
        have hge : 10 ^ j ≤ u ∨ j = 0 := by
          rcases Nat.lt_or_ge u (10 ^ j) with hl | hl
          · right
            rcases Nat.eq_zero_or_pos j with e | hp
            · exact e
            · exfalso
              have : ∀ (i v : Nat), v < 10 ^ i → 1 ≤ i → nDigits v ≤ i := by
                intro i
                induction i with
                | zero => intro v _ h; omega
                | succ i ih =>
                  intro v hv _
                  by_cases h10 : v < 10
                  · rw [nDigits_small h10]; omega
                  · rw [nDigits_big h10]
                    rcases Nat.eq_zero_or_pos i with e | hi
                    · subst e; simp at hv; omega
                    · have := ih (v / 10) (by rw [Nat.pow_succ] at hv; omega) hi
                      omega
              have := this j u hl hp
              omega
          · exact Or.inl hl
        rcases hge with hge | e
        · have : 10 ^ k ≤ 10 ^ j := Nat.pow_le_pow_right (by decide) (by omega)
          omega
        · omega
  rcases hlt 6 (by omega) with h | h
  · exact h
  · omega
theorem mk1_itoa (v : Int) (h0 : -100000 ≤ v) (h1 : v ≤ 100000) (b : Txt) (hb : b = [] ∨ ∃ x r, b = x :: r ∧ dgB x = false) : mk1 (itoa v ++ b) = some v := by
  unfold itoa
  split
  · rename_i h
    have hd := dgs_all (decDigits v.natAbs) 6 0 v.natAbs b (dec_digit _) (dec_len _ (by omega)) hb (parse_dec _ (by omega))
    obtain ⟨y, r, hy⟩ : ∃ c r, decDigits v.natAbs = c :: r := by
      cases hx : decDigits v.natAbs with
      | nil => exact absurd hx (dec_ne _)
      | cons c r => exact ⟨c, r, rfl⟩
    have hyd := dgB_of y (dec_digit v.natAbs y (by rw [hy]; simp))
    rw [List.cons_append, mk1.eq_def]
    simp only [if_true]
    rw [hy, List.cons_append] at hd ⊢
    simp only [hyd, if_true, hd]
    congr 1
    omega
  · rename_i h
    have hd := dgs_all (decDigits v.toNat) 6 0 v.toNat b (dec_digit _) (dec_len _ (by omega)) hb (parse_dec _ (by omega))
    obtain ⟨y, r, hy⟩ : ∃ c r, decDigits v.toNat = c :: r := by
      cases hx : decDigits v.toNat with
      | nil => exact absurd hx (dec_ne _)
      | cons c r => exact ⟨c, r, rfl⟩
    have hyt := dec_digit v.toNat y (by rw [hy]; simp)
    have hyd := dgB_of y hyt
    rw [hy, List.cons_append] at hd ⊢
    rw [mk1.eq_def]
    simp only
    rw [if_neg (by intro e; subst e; revert hyt; decide), if_pos hyd, hd]
    congr 1
    simp only
    omega
theorem marks_num (x : UInt8) (hx : x = 114 ∨ x = 35) (v : Int) (h0 : -100000 ≤ v) (h1 : v ≤ 100000) (b : Txt) (hb : b = [] ∨ ∃ x r, b = x :: r ∧ dgB x = false) : marks (x :: itoa v ++ b) = v :: marks b := by
  have hp : plainB (itoa v) = true := by
    unfold plainB
    rw [List.all_eq_true]
    intro y hy
    have h := (itoa_stp v y hy).2
    simp only [Bool.not_eq_true', Bool.or_eq_false_iff, beq_eq_false_iff_ne, ne_eq]
    refine ⟨?_, ?_⟩ <;> (intro e; subst e; revert h; decide)
  rw [List.cons_append, marks, if_pos hx, mk1_itoa v h0 h1 b hb, marks_plain _ _ hp]
/-- A text with no mark ahead of a sign or a digit: it has no numbers, whatever stands behind, if that begins with neither. -/
theorem marks_word : ∀ (a b : Txt), (∀ c, marks (a ++ c) = marks c) → marks (a ++ b) = marks b := fun a b h => h b
end Go.Proofs.YtnngnfajmncjpaaGreatDoor.Tx
/- DERIVED. Plain facts: the numbers that stand in an instruction's text are the instruction's. By an AI agent. -/
namespace Go.Proofs.YtnngnfajmncjpaaGreatDoor.Tx
open Go.Lib
set_option linter.unusedVariables false
/-- A mark is followed by a letter that begins no number. -/
def wordB : Txt → Bool
  | [] => true
  | x :: l => (if x = 114 ∨ x = 35 then (match l with | [] => false | y :: _ => !(y == 45) && !dgB y) else true) && wordB l
theorem mk1_none (y : UInt8) (l : Txt) (h1 : y ≠ 45) (h2 : dgB y = false) : mk1 (y :: l) = none := by
  rw [mk1.eq_def]
  simp only
  rw [if_neg h1, h2]
  rfl
theorem marks_skip : ∀ (a b : Txt), wordB a = true → marks (a ++ b) = marks b
  | [], _, _ => rfl
  | x :: a, b, h => by
    unfold wordB at h
    rw [Bool.and_eq_true] at h
    obtain ⟨h1, h2⟩ := h
    rw [List.cons_append, marks]
    by_cases hx : x = 114 ∨ x = 35
    · rw [if_pos hx] at h1
      cases a with
      | nil => exact absurd h1 (by simp)
      | cons y a =>
        simp only [Bool.and_eq_true, Bool.not_eq_true', beq_eq_false_iff_ne, ne_eq] at h1
        rw [if_pos hx, List.cons_append, mk1_none y _ h1.1 h1.2]
        exact marks_skip (y :: a) b h2
    · rw [if_neg hx]
      exact marks_skip a b h2
/-- The numbers of a shape's places. -/
def mkS : Txt → Nm → List Int
  | [], _ => []
  | c :: r, s => (match plc c with | some p => (if p.ws = [] then [p.times * s.get p.of] else []) | none => []) ++ mkS r s
/-- A shape's letters: a mark that stands for itself is followed by a letter that begins no number; a place by one, too. -/
def litB : Txt → Bool
  | [] => true
  | c :: r => (match r with | [] => (plc c).isSome || !(c == 114 || c == 35) | y :: _ => if (plc c).isSome || c == 114 || c == 35 then (plc y).isNone && !(y == 45) && !dgB y else true) && litB r
theorem head_lit (y : UInt8) (r : Txt) (s : Nm) (h : plc y = none) : wr (y :: r) s = y :: wr r s := by
  rw [wr, h]; rfl
theorem marks_wr (s : Nm) (hN : ∀ c p, plc c = some p → p.ws = [] → -100000 ≤ (p.times : Int) * s.get p.of ∧ (p.times : Int) * s.get p.of ≤ 100000) : ∀ (sh : Txt), litB sh = true → marks (wr sh s) = mkS sh s
  | [], _ => rfl
  | c :: r, h => by
    unfold litB at h
    rw [Bool.and_eq_true] at h
    obtain ⟨h1, h2⟩ := h
    have ih := marks_wr s hN r h2
    unfold wr mkS
    cases hc : plc c with
    | none =>
      simp only [List.nil_append]
      by_cases hm : c = 114 ∨ c = 35
      · cases r with
        | nil => exact absurd h1 (by rcases hm with rfl | rfl <;> simp [hc])
        | cons y r =>
          simp only [hc, Option.isSome_none, Bool.false_or] at h1
          rw [if_pos (by simpa using hm)] at h1
          simp only [Bool.and_eq_true, Option.isNone_iff_eq_none, Bool.not_eq_true', beq_eq_false_iff_ne, ne_eq] at h1
          obtain ⟨⟨g1, g2⟩, g3⟩ := h1
          rw [← ih, head_lit y r s g1, List.cons_append, List.nil_append, marks, if_pos hm, mk1_none y _ g2 g3]
      · rw [List.cons_append, List.nil_append, marks, if_neg hm]
        exact ih
    | some p =>
      have hd : wr r s = [] ∨ ∃ x l, wr r s = x :: l ∧ dgB x = false := by
        cases r with
        | nil => exact Or.inl rfl
        | cons y r =>
          simp only [hc, Option.isSome_some, Bool.true_or, if_true, Bool.and_eq_true, Option.isNone_iff_eq_none, Bool.not_eq_true'] at h1
          exact Or.inr ⟨y, wr r s, head_lit y r s h1.1.1, h1.2⟩
      simp only
      by_cases hw : p.ws = []
      · obtain ⟨b0, b1⟩ := hN c p hc hw
        have hmk : p.mark = 114 ∨ p.mark = 35 := by
          unfold plc at hc
          repeat' (split at hc)
          all_goals first | (cases hc; first | (left; rfl) | (right; rfl) | (exact absurd hw (by decide))) | cases hc
        unfold Pl.show
        rw [if_pos hw, if_pos hw, marks_num p.mark hmk _ b0 b1 _ hd, ih]
        rfl
      · have hwd : wordB (p.show s) = true := by
          unfold Pl.show
          rw [if_neg hw]
          have H : ∀ ws, ws = aluW ∨ ws = cndW → ∀ j : Nat, wordB (ws[j]?.getD []) = true := by
            intro ws hws j
            have hall : ∀ x ∈ ws, wordB x = true := by rcases hws with rfl | rfl <;> decide
            by_cases hj : j < ws.length
            · rw [List.getElem?_eq_getElem hj]
              exact hall _ (List.getElem_mem hj)
            · rw [List.getElem?_eq_none (by omega)]; rfl
          refine H p.ws ?_ _
          unfold plc at hc
          repeat' (split at hc)
          all_goals first | (cases hc; first | exact absurd rfl hw | (left; rfl) | (right; rfl)) | cases hc
        rw [marks_skip _ _ hwd, ih, if_neg hw]
        rfl
theorem lit_shp : ∀ k : Fin 21, litB (shpN k.val) = true := by decide +kernel
theorem marks_show {k : Nat} {s : Nm} (h : Okk k s) : marks (showL k s) = mkS (shpN k) s := by
  obtain ⟨⟨a1, a2⟩, ⟨b1, b2⟩, ⟨c1, c2⟩, e1, e2⟩ := h.bnd
  refine marks_wr s ?_ _ (lit_shp ⟨k, h.hk⟩)
  intro c p hc hw
  unfold plc at hc
  repeat' (split at hc)
  all_goals first | (cases hc; first | exact absurd hw (by decide) | (simp [Nm.get]; omega)) | cases hc
/-- A number of a list; 0 beyond. -/
def atL (l : List Int) (i : Nat) : Int := l[i]?.getD 0
/-- The instruction of a sort that a list of numbers tells. -/
def gs (op : Nat) (l : List Int) (kk : Nat) : Nm :=
  if op < 4 then ⟨atL l 0, 0, 0, atL l 1⟩
  else if op < 7 then ⟨atL l 0, 0, atL l 1, atL l 2⟩
  else if op < 9 ∨ op = 14 ∨ op = 15 then ⟨atL l 0, atL l 1, atL l 2, 0⟩
  else if op < 11 then ⟨atL l 0, atL l 1, 0, atL l 2⟩
  else if op = 11 then ⟨atL l 0, 0, atL l 1, kk⟩
  else if op < 14 then ⟨atL l 0, atL l 1, 0, (atL l 2).tdiv 4⟩
  else if op = 16 then ⟨atL l 0, 0, 0, (atL l 1).tdiv 4⟩
  else if op = 17 then ⟨0, 0, 0, (atL l 0).tdiv 2⟩
  else if op = 18 then ⟨kk, 0, 0, (atL l 0).tdiv 2⟩
  else if op = 20 then ⟨0, 0, 0, atL l 0⟩
  else Nm.nul
theorem gs_show {k : Nat} {s : Nm} (h : Okk k s) : gs k (marks (showL k s)) (aOf k s) = s := by
  rw [marks_show h]
  obtain ⟨d, n, m, i⟩ := s
  have hk := h.hk
  have d0 := h.d0; have d1 := h.d1; have n0 := h.n0; have n1 := h.n1; have m0 := h.m0; have m1 := h.m1; have i0 := h.i0; have i1 := h.i1
  clear h
  have q4 : ∀ x : Int, (4 * x).tdiv 4 = x := fun x => Int.mul_tdiv_cancel_left x (by omega)
  have q2 : ∀ x : Int, (2 * x).tdiv 2 = x := fun x => Int.mul_tdiv_cancel_left x (by omega)
  have L : ∀ j < 21, k = j → gs k (mkS (shpN k) ⟨d, n, m, i⟩) (aOf k ⟨d, n, m, i⟩) = ⟨d, n, m, i⟩ := by
    intro j hj e
    subst e
    simp only at d0 d1 n0 n1 m0 m1 i0 i1
    match k, hj with
    | 0, _ =>
      obtain rfl : n = 0 := by have b := n1; simp [nHi] at b; omega
      obtain rfl : m = 0 := by have b := m1; simp [mHi] at b; omega
      show Nm.mk (1 * d) (0) (0) (1 * i) = ⟨d, 0, 0, i⟩
      simp only [Int.one_mul]
    | 1, _ =>
      obtain rfl : n = 0 := by have b := n1; simp [nHi] at b; omega
      obtain rfl : m = 0 := by have b := m1; simp [mHi] at b; omega
      show Nm.mk (1 * d) (0) (0) (1 * i) = ⟨d, 0, 0, i⟩
      simp only [Int.one_mul]
    | 2, _ =>
      obtain rfl : n = 0 := by have b := n1; simp [nHi] at b; omega
      obtain rfl : m = 0 := by have b := m1; simp [mHi] at b; omega
      show Nm.mk (1 * d) (0) (0) (1 * i) = ⟨d, 0, 0, i⟩
      simp only [Int.one_mul]
    | 3, _ =>
      obtain rfl : n = 0 := by have b := n1; simp [nHi] at b; omega
      obtain rfl : m = 0 := by have b := m1; simp [mHi] at b; omega
      show Nm.mk (1 * d) (0) (0) (1 * i) = ⟨d, 0, 0, i⟩
      simp only [Int.one_mul]
    | 4, _ =>
      obtain rfl : n = 0 := by have b := n1; simp [nHi] at b; omega
      show Nm.mk (1 * d) (0) (1 * m) (1 * i) = ⟨d, 0, m, i⟩
      simp only [Int.one_mul]
    | 5, _ =>
      obtain rfl : n = 0 := by have b := n1; simp [nHi] at b; omega
      show Nm.mk (1 * d) (0) (1 * m) (1 * i) = ⟨d, 0, m, i⟩
      simp only [Int.one_mul]
    | 6, _ =>
      obtain rfl : n = 0 := by have b := n1; simp [nHi] at b; omega
      show Nm.mk (1 * d) (0) (1 * m) (1 * i) = ⟨d, 0, m, i⟩
      simp only [Int.one_mul]
    | 7, _ =>
      obtain rfl : i = 0 := by have a := i0; have b := i1; simp [iLo, iHi] at a b; omega
      show Nm.mk (1 * d) (1 * n) (1 * m) (0) = ⟨d, n, m, 0⟩
      simp only [Int.one_mul]
    | 8, _ =>
      obtain rfl : i = 0 := by have a := i0; have b := i1; simp [iLo, iHi] at a b; omega
      show Nm.mk (1 * d) (1 * n) (1 * m) (0) = ⟨d, n, m, 0⟩
      simp only [Int.one_mul]
    | 9, _ =>
      obtain rfl : m = 0 := by have b := m1; simp [mHi] at b; omega
      show Nm.mk (1 * d) (1 * n) (0) (1 * i) = ⟨d, n, 0, i⟩
      simp only [Int.one_mul]
    | 10, _ =>
      obtain rfl : m = 0 := by have b := m1; simp [mHi] at b; omega
      show Nm.mk (1 * d) (1 * n) (0) (1 * i) = ⟨d, n, 0, i⟩
      simp only [Int.one_mul]
    | 11, _ =>
      obtain rfl : n = 0 := by have b := n1; simp [nHi] at b; omega
      obtain ⟨x, rfl⟩ := Int.eq_ofNat_of_zero_le (show 0 ≤ i from i0)
      show Nm.mk (1 * d) (0) (1 * m) (((x : Nat) : Int)) = ⟨d, 0, m, ((x : Nat) : Int)⟩
      simp only [Int.one_mul]
    | 12, _ =>
      obtain rfl : m = 0 := by have b := m1; simp [mHi] at b; omega
      show Nm.mk (1 * d) (1 * n) (0) ((4 * i).tdiv 4) = ⟨d, n, 0, i⟩
      simp only [q4, Int.one_mul]
    | 13, _ =>
      obtain rfl : m = 0 := by have b := m1; simp [mHi] at b; omega
      show Nm.mk (1 * d) (1 * n) (0) ((4 * i).tdiv 4) = ⟨d, n, 0, i⟩
      simp only [q4, Int.one_mul]
    | 14, _ =>
      obtain rfl : i = 0 := by have a := i0; have b := i1; simp [iLo, iHi] at a b; omega
      show Nm.mk (1 * d) (1 * n) (1 * m) (0) = ⟨d, n, m, 0⟩
      simp only [Int.one_mul]
    | 15, _ =>
      obtain rfl : i = 0 := by have a := i0; have b := i1; simp [iLo, iHi] at a b; omega
      show Nm.mk (1 * d) (1 * n) (1 * m) (0) = ⟨d, n, m, 0⟩
      simp only [Int.one_mul]
    | 16, _ =>
      obtain rfl : n = 0 := by have b := n1; simp [nHi] at b; omega
      obtain rfl : m = 0 := by have b := m1; simp [mHi] at b; omega
      show Nm.mk (1 * d) (0) (0) ((4 * i).tdiv 4) = ⟨d, 0, 0, i⟩
      simp only [q4, Int.one_mul]
    | 17, _ =>
      obtain rfl : d = 0 := by have b := d1; simp [dHi] at b; omega
      obtain rfl : n = 0 := by have b := n1; simp [nHi] at b; omega
      obtain rfl : m = 0 := by have b := m1; simp [mHi] at b; omega
      show Nm.mk (0) (0) (0) ((2 * i).tdiv 2) = ⟨0, 0, 0, i⟩
      simp only [q2]
    | 18, _ =>
      obtain rfl : n = 0 := by have b := n1; simp [nHi] at b; omega
      obtain rfl : m = 0 := by have b := m1; simp [mHi] at b; omega
      obtain ⟨x, rfl⟩ := Int.eq_ofNat_of_zero_le d0
      show Nm.mk (((x : Nat) : Int)) (0) (0) ((2 * i).tdiv 2) = ⟨((x : Nat) : Int), 0, 0, i⟩
      simp only [q2]
    | 19, _ =>
      obtain rfl : d = 0 := by have b := d1; simp [dHi] at b; omega
      obtain rfl : n = 0 := by have b := n1; simp [nHi] at b; omega
      obtain rfl : m = 0 := by have b := m1; simp [mHi] at b; omega
      obtain rfl : i = 0 := by have a := i0; have b := i1; simp [iLo, iHi] at a b; omega
      show Nm.mk (0) (0) (0) (0) = ⟨0, 0, 0, 0⟩
      rfl
    | 20, _ =>
      obtain rfl : d = 0 := by have b := d1; simp [dHi] at b; omega
      obtain rfl : n = 0 := by have b := n1; simp [nHi] at b; omega
      obtain rfl : m = 0 := by have b := m1; simp [mHi] at b; omega
      show Nm.mk (0) (0) (0) (1 * i) = ⟨0, 0, 0, i⟩
      simp only [Int.one_mul]
    | _ + 21, hj => omega
  exact L k hk rfl
end Go.Proofs.YtnngnfajmncjpaaGreatDoor.Tx
