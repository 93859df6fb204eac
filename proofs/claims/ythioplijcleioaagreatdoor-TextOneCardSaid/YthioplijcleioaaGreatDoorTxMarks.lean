/- DERIVED. Plain facts: the numbers that stand in an instruction's text are the instruction's. By an AI agent. -/
import Derived.Test.YthioplijcleioaaGreatDoorTxOne
namespace Go.Proofs.YthioplijcleioaaGreatDoor.Tx
open Go.Lib
set_option linter.unusedVariables false
/-- A mark is followed by a letter that begins no number. -/
def wordB : Txt → Bool
  | [] => true
  | x :: l => (if x = 114 ∨ x = 35 then (match l with | [] => false | y :: _ => !(y == 45) && !dgB y) else true) && wordB l
theorem mk1_none (y : UInt8) (l : Txt) (h1 : y ≠ 45) (h2 : dgB y = false) : mk1 (y :: l) = none := by
  rw [mk1.eq_def]
  simp only
  rw [if_neg h1, h2]
  rfl
theorem marks_skip : ∀ (a b : Txt), wordB a = true → marks (a ++ b) = marks b
  | [], _, _ => rfl
  | x :: a, b, h => by
    unfold wordB at h
    rw [Bool.and_eq_true] at h
    obtain ⟨h1, h2⟩ := h
    rw [List.cons_append, marks]
    by_cases hx : x = 114 ∨ x = 35
    · rw [if_pos hx] at h1
      cases a with
      | nil => exact absurd h1 (by simp)
      | cons y a =>
        simp only [Bool.and_eq_true, Bool.not_eq_true', beq_eq_false_iff_ne, ne_eq] at h1
        rw [if_pos hx, List.cons_append, mk1_none y _ h1.1 h1.2]
        exact marks_skip (y :: a) b h2
    · rw [if_neg hx]
      exact marks_skip a b h2
/-- The numbers of a shape's places. -/
def mkS : Txt → Nm → List Int
  | [], _ => []
  | c :: r, s => (match plc c with | some p => (if p.ws = [] then [p.times * s.get p.of] else []) | none => []) ++ mkS r s
/-- A shape's letters: a mark that stands for itself is followed by a letter that begins no number; a place by one, too. -/
def litB : Txt → Bool
  | [] => true
  | c :: r => (match r with | [] => (plc c).isSome || !(c == 114 || c == 35) | y :: _ => if (plc c).isSome || c == 114 || c == 35 then (plc y).isNone && !(y == 45) && !dgB y else true) && litB r
theorem head_lit (y : UInt8) (r : Txt) (s : Nm) (h : plc y = none) : wr (y :: r) s = y :: wr r s := by
  rw [wr, h]; rfl
theorem marks_wr (s : Nm) (hN : ∀ c p, plc c = some p → p.ws = [] → -100000 ≤ (p.times : Int) * s.get p.of ∧ (p.times : Int) * s.get p.of ≤ 100000) : ∀ (sh : Txt), litB sh = true → marks (wr sh s) = mkS sh s
  | [], _ => rfl
  | c :: r, h => by
    unfold litB at h
    rw [Bool.and_eq_true] at h
    obtain ⟨h1, h2⟩ := h
    have ih := marks_wr s hN r h2
    unfold wr mkS
    cases hc : plc c with
    | none =>
      simp only [List.nil_append]
      by_cases hm : c = 114 ∨ c = 35
      · cases r with
        | nil => exact absurd h1 (by rcases hm with rfl | rfl <;> simp [hc])
        | cons y r =>
          simp only [hc, Option.isSome_none, Bool.false_or] at h1
          rw [if_pos (by simpa using hm)] at h1
          simp only [Bool.and_eq_true, Option.isNone_iff_eq_none, Bool.not_eq_true', beq_eq_false_iff_ne, ne_eq] at h1
          obtain ⟨⟨g1, g2⟩, g3⟩ := h1
          rw [← ih, head_lit y r s g1, List.cons_append, List.nil_append, marks, if_pos hm, mk1_none y _ g2 g3]
      · rw [List.cons_append, List.nil_append, marks, if_neg hm]
        exact ih
    | some p =>
      have hd : wr r s = [] ∨ ∃ x l, wr r s = x :: l ∧ dgB x = false := by
        cases r with
        | nil => exact Or.inl rfl
        | cons y r =>
          simp only [hc, Option.isSome_some, Bool.true_or, if_true, Bool.and_eq_true, Option.isNone_iff_eq_none, Bool.not_eq_true'] at h1
          exact Or.inr ⟨y, wr r s, head_lit y r s h1.1.1, h1.2⟩
      simp only
      by_cases hw : p.ws = []
      · obtain ⟨b0, b1⟩ := hN c p hc hw
        have hmk : p.mark = 114 ∨ p.mark = 35 := by
          unfold plc at hc
          repeat' (split at hc)
          all_goals first | (cases hc; first | (left; rfl) | (right; rfl) | (exact absurd hw (by decide))) | cases hc
        unfold Pl.show
        rw [if_pos hw, if_pos hw, marks_num p.mark hmk _ b0 b1 _ hd, ih]
        rfl
      · have hwd : wordB (p.show s) = true := by
          unfold Pl.show
          rw [if_neg hw]
          have H : ∀ ws, ws = aluW ∨ ws = cndW → ∀ j : Nat, wordB (ws[j]?.getD []) = true := by
            intro ws hws j
            have hall : ∀ x ∈ ws, wordB x = true := by rcases hws with rfl | rfl <;> decide
            by_cases hj : j < ws.length
            · rw [List.getElem?_eq_getElem hj]
              exact hall _ (List.getElem_mem hj)
            · rw [List.getElem?_eq_none (by omega)]; rfl
          refine H p.ws ?_ _
          unfold plc at hc
          repeat' (split at hc)
          all_goals first | (cases hc; first | exact absurd rfl hw | (left; rfl) | (right; rfl)) | cases hc
        rw [marks_skip _ _ hwd, ih, if_neg hw]
        rfl
theorem lit_shp : ∀ k : Fin 21, litB (shpN k.val) = true := by decide +kernel
theorem marks_show {k : Nat} {s : Nm} (h : Okk k s) : marks (showL k s) = mkS (shpN k) s := by
  obtain ⟨⟨a1, a2⟩, ⟨b1, b2⟩, ⟨c1, c2⟩, e1, e2⟩ := h.bnd
  refine marks_wr s ?_ _ (lit_shp ⟨k, h.hk⟩)
  intro c p hc hw
  unfold plc at hc
  repeat' (split at hc)
  all_goals first | (cases hc; first | exact absurd hw (by decide) | (simp [Nm.get]; omega)) | cases hc
/-- A number of a list; 0 beyond. -/
def atL (l : List Int) (i : Nat) : Int := l[i]?.getD 0
/-- The instruction of a sort that a list of numbers tells. -/
def gs (op : Nat) (l : List Int) (kk : Nat) : Nm :=
  if op < 4 then ⟨atL l 0, 0, 0, atL l 1⟩
  else if op < 7 then ⟨atL l 0, 0, atL l 1, atL l 2⟩
  else if op < 9 ∨ op = 14 ∨ op = 15 then ⟨atL l 0, atL l 1, atL l 2, 0⟩
  else if op < 11 then ⟨atL l 0, atL l 1, 0, atL l 2⟩
  else if op = 11 then ⟨atL l 0, 0, atL l 1, kk⟩
  else if op < 14 then ⟨atL l 0, atL l 1, 0, (atL l 2).tdiv 4⟩
  else if op = 16 then ⟨atL l 0, 0, 0, (atL l 1).tdiv 4⟩
  else if op = 17 then ⟨0, 0, 0, (atL l 0).tdiv 2⟩
  else if op = 18 then ⟨kk, 0, 0, (atL l 0).tdiv 2⟩
  else if op = 20 then ⟨0, 0, 0, atL l 0⟩
  else Nm.nul
theorem gs_show {k : Nat} {s : Nm} (h : Okk k s) : gs k (marks (showL k s)) (aOf k s) = s := by
  rw [marks_show h]
  obtain ⟨d, n, m, i⟩ := s
  have hk := h.hk
  have d0 := h.d0; have d1 := h.d1; have n0 := h.n0; have n1 := h.n1; have m0 := h.m0; have m1 := h.m1; have i0 := h.i0; have i1 := h.i1
  clear h
  have q4 : ∀ x : Int, (4 * x).tdiv 4 = x := fun x => Int.mul_tdiv_cancel_left x (by omega)
  have q2 : ∀ x : Int, (2 * x).tdiv 2 = x := fun x => Int.mul_tdiv_cancel_left x (by omega)
  have L : ∀ j < 21, k = j → gs k (mkS (shpN k) ⟨d, n, m, i⟩) (aOf k ⟨d, n, m, i⟩) = ⟨d, n, m, i⟩ := by
    intro j hj e
    subst e
    simp only at d0 d1 n0 n1 m0 m1 i0 i1
    match k, hj with
    | 0, _ =>
      obtain rfl : n = 0 := by have b := n1; simp [nHi] at b; omega
      obtain rfl : m = 0 := by have b := m1; simp [mHi] at b; omega
      show Nm.mk (1 * d) (0) (0) (1 * i) = ⟨d, 0, 0, i⟩
      simp only [Int.one_mul]
    | 1, _ =>
      obtain rfl : n = 0 := by have b := n1; simp [nHi] at b; omega
      obtain rfl : m = 0 := by have b := m1; simp [mHi] at b; omega
      show Nm.mk (1 * d) (0) (0) (1 * i) = ⟨d, 0, 0, i⟩
      simp only [Int.one_mul]
    | 2, _ =>
      obtain rfl : n = 0 := by have b := n1; simp [nHi] at b; omega
      obtain rfl : m = 0 := by have b := m1; simp [mHi] at b; omega
      show Nm.mk (1 * d) (0) (0) (1 * i) = ⟨d, 0, 0, i⟩
      simp only [Int.one_mul]
    | 3, _ =>
      obtain rfl : n = 0 := by have b := n1; simp [nHi] at b; omega
      obtain rfl : m = 0 := by have b := m1; simp [mHi] at b; omega
      show Nm.mk (1 * d) (0) (0) (1 * i) = ⟨d, 0, 0, i⟩
      simp only [Int.one_mul]
    | 4, _ =>
      obtain rfl : n = 0 := by have b := n1; simp [nHi] at b; omega
      show Nm.mk (1 * d) (0) (1 * m) (1 * i) = ⟨d, 0, m, i⟩
      simp only [Int.one_mul]
    | 5, _ =>
      obtain rfl : n = 0 := by have b := n1; simp [nHi] at b; omega
      show Nm.mk (1 * d) (0) (1 * m) (1 * i) = ⟨d, 0, m, i⟩
      simp only [Int.one_mul]
    | 6, _ =>
      obtain rfl : n = 0 := by have b := n1; simp [nHi] at b; omega
      show Nm.mk (1 * d) (0) (1 * m) (1 * i) = ⟨d, 0, m, i⟩
      simp only [Int.one_mul]
    | 7, _ =>
      obtain rfl : i = 0 := by have a := i0; have b := i1; simp [iLo, iHi] at a b; omega
      show Nm.mk (1 * d) (1 * n) (1 * m) (0) = ⟨d, n, m, 0⟩
      simp only [Int.one_mul]
    | 8, _ =>
      obtain rfl : i = 0 := by have a := i0; have b := i1; simp [iLo, iHi] at a b; omega
      show Nm.mk (1 * d) (1 * n) (1 * m) (0) = ⟨d, n, m, 0⟩
      simp only [Int.one_mul]
    | 9, _ =>
      obtain rfl : m = 0 := by have b := m1; simp [mHi] at b; omega
      show Nm.mk (1 * d) (1 * n) (0) (1 * i) = ⟨d, n, 0, i⟩
      simp only [Int.one_mul]
    | 10, _ =>
      obtain rfl : m = 0 := by have b := m1; simp [mHi] at b; omega
      show Nm.mk (1 * d) (1 * n) (0) (1 * i) = ⟨d, n, 0, i⟩
      simp only [Int.one_mul]
    | 11, _ =>
      obtain rfl : n = 0 := by have b := n1; simp [nHi] at b; omega
      obtain ⟨x, rfl⟩ := Int.eq_ofNat_of_zero_le (show 0 ≤ i from i0)
      show Nm.mk (1 * d) (0) (1 * m) (((x : Nat) : Int)) = ⟨d, 0, m, ((x : Nat) : Int)⟩
      simp only [Int.one_mul]
    | 12, _ =>
      obtain rfl : m = 0 := by have b := m1; simp [mHi] at b; omega
      show Nm.mk (1 * d) (1 * n) (0) ((4 * i).tdiv 4) = ⟨d, n, 0, i⟩
      simp only [q4, Int.one_mul]
    | 13, _ =>
      obtain rfl : m = 0 := by have b := m1; simp [mHi] at b; omega
      show Nm.mk (1 * d) (1 * n) (0) ((4 * i).tdiv 4) = ⟨d, n, 0, i⟩
      simp only [q4, Int.one_mul]
    | 14, _ =>
      obtain rfl : i = 0 := by have a := i0; have b := i1; simp [iLo, iHi] at a b; omega
      show Nm.mk (1 * d) (1 * n) (1 * m) (0) = ⟨d, n, m, 0⟩
      simp only [Int.one_mul]
    | 15, _ =>
      obtain rfl : i = 0 := by have a := i0; have b := i1; simp [iLo, iHi] at a b; omega
      show Nm.mk (1 * d) (1 * n) (1 * m) (0) = ⟨d, n, m, 0⟩
      simp only [Int.one_mul]
    | 16, _ =>
      obtain rfl : n = 0 := by have b := n1; simp [nHi] at b; omega
      obtain rfl : m = 0 := by have b := m1; simp [mHi] at b; omega
      show Nm.mk (1 * d) (0) (0) ((4 * i).tdiv 4) = ⟨d, 0, 0, i⟩
      simp only [q4, Int.one_mul]
    | 17, _ =>
      obtain rfl : d = 0 := by have b := d1; simp [dHi] at b; omega
      obtain rfl : n = 0 := by have b := n1; simp [nHi] at b; omega
      obtain rfl : m = 0 := by have b := m1; simp [mHi] at b; omega
      show Nm.mk (0) (0) (0) ((2 * i).tdiv 2) = ⟨0, 0, 0, i⟩
      simp only [q2]
    | 18, _ =>
      obtain rfl : n = 0 := by have b := n1; simp [nHi] at b; omega
      obtain rfl : m = 0 := by have b := m1; simp [mHi] at b; omega
      obtain ⟨x, rfl⟩ := Int.eq_ofNat_of_zero_le d0
      show Nm.mk (((x : Nat) : Int)) (0) (0) ((2 * i).tdiv 2) = ⟨((x : Nat) : Int), 0, 0, i⟩
      simp only [q2]
    | 19, _ =>
      obtain rfl : d = 0 := by have b := d1; simp [dHi] at b; omega
      obtain rfl : n = 0 := by have b := n1; simp [nHi] at b; omega
      obtain rfl : m = 0 := by have b := m1; simp [mHi] at b; omega
      obtain rfl : i = 0 := by have a := i0; have b := i1; simp [iLo, iHi] at a b; omega
      show Nm.mk (0) (0) (0) (0) = ⟨0, 0, 0, 0⟩
      rfl
    | 20, _ =>
      obtain rfl : d = 0 := by have b := d1; simp [dHi] at b; omega
      obtain rfl : n = 0 := by have b := n1; simp [nHi] at b; omega
      obtain rfl : m = 0 := by have b := m1; simp [mHi] at b; omega
      show Nm.mk (0) (0) (0) (1 * i) = ⟨0, 0, 0, i⟩
      simp only [Int.one_mul]
    | _ + 21, hj => omega
  exact L k hk rfl
end Go.Proofs.YthioplijcleioaaGreatDoor.Tx
