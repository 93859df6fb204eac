/- DERIVED. RnArg, RnSpec, RnApp in one text. By an AI agent. -/
import Derived.Test.YtkafmpdjpjgkgaaDoorZ01
import Derived.Test.YtkafmpdjpjgkgaaDoorRows
import Derived.Test.YtkafmpdjpjgkgaaDoorZ21
import Derived.ArgAppend
import Derived.Laws.AppendOwn
/- DERIVED. A case (code, words, a tape) that came in by value. By an AI agent. -/
namespace Go.Proofs.YtkafmpdjpjgkgaaDoor.Rn
open Go Go.ChangeShapes Go.WideShapes Go.ChangeAt Go.RowKit Args
set_option linter.unusedVariables false
structure IsCase (W : World) (v : Value) (C D T : List Int) : Prop where
  ex : ∃ v0 v1 v2, v = .agg #[v0, v1, v2] ∧ Ints .u16 2 W v0 C ∧ Ints .u32 4 W v1 D ∧ Ints .u32 4 W v2 T
set_option maxRecDepth 100000 in
theorem case_of {H : Type} {enc : TypeId × Value → H} {W : World} {r : Reach} {b0 base : Nat} {spare : Nat → Bool} {held : Bool} {v : Value} {d : DataW H} {p : List MemPlace}
    (hv : Value.okWide Tryd.prog W r b0 25 v) (h : DataW.Trod enc Tryd.prog W base spare held 25 v d p) (hs : (d.weights Tryd.prog 25).all (· ≤ reachBytes) = true) : ∃ C D T, IsCase W v C D T := by
  obtain ⟨cs, rfl, hsz⟩ := okWide_struct Tryd.underlying25 hv
  obtain ⟨fuel, hfu⟩ := h
  obtain ⟨xs, n, _, hx, _, hlen, hg⟩ := DataW.trod_struct Tryd.underlying25 hfu
  have g0 : DataW.trod enc Tryd.prog W base spare held n 22 (List.take (Tryd.prog.cellsOf 22) (List.drop 0 (Value.agg cs).cells.toList)) = xs[0]? := hg 0 _ rfl
  have g1 : DataW.trod enc Tryd.prog W base spare held n 23 (List.take (Tryd.prog.cellsOf 23) (List.drop 1 (Value.agg cs).cells.toList)) = xs[1]? := hg 1 _ rfl
  have g2 : DataW.trod enc Tryd.prog W base spare held n 23 (List.take (Tryd.prog.cellsOf 23) (List.drop 2 (Value.agg cs).cells.toList)) = xs[2]? := hg 2 _ rfl
  have c1 : Tryd.prog.cellsOf 22 = 1 := by kernel_rfl
  have c2 : Tryd.prog.cellsOf 23 = 1 := by kernel_rfl
  have c7 : Tryd.prog.cellsOf 25 = 3 := by kernel_rfl
  rw [c7] at hsz
  rw [c1] at g0
  rw [c2] at g1 g2
  obtain ⟨l⟩ := cs
  have hl : l.length = 3 := by simpa using hsz
  match l, hl, xs, hlen with
  | [x0, x1, x2], _, [y0, y1, y2], _ =>
    simp [Value.cells] at g0 g1 g2
    have hd : d = .agg [y0.1, y1.1, y2.1] := (Prod.mk.inj hx).1
    rw [hd] at hs
    simp only [DataW.weights, Tryd.underlying25] at hs
    have w0 := all_weights hs
    have w1 := all_weights w0.2
    have w2 := all_weights w1.2
    obtain ⟨v0, l0, e0, t0⟩ := ints_of (b := 2) Tryd.underlying22 Tryd.underlying37 (by kernel_rfl) (by kernel_rfl) g0 w0.1
    obtain ⟨v1, l1, e1, t1⟩ := ints_of (b := 4) Tryd.underlying23 Tryd.underlying36 (by kernel_rfl) (by kernel_rfl) g1 w1.1
    obtain ⟨v2, l2, e2, t2⟩ := ints_of (b := 4) Tryd.underlying23 Tryd.underlying36 (by kernel_rfl) (by kernel_rfl) g2 w2.1
    simp at e0 e1 e2
    subst e0 e1 e2
    exact ⟨l0, l1, l2, ⟨_, _, _, rfl, t0, t1, t2⟩⟩
end Go.Proofs.YtkafmpdjpjgkgaaDoor.Rn
/- DERIVED. Code that runs to its end, plainly. By an AI agent. -/
namespace Go.Proofs.YtkafmpdjpjgkgaaDoor.Rn
open Go.ChangeShapes Go.WideShapes Go.ChangeAt Go.RowKit WMath Word Args Mm Co Lk
set_option linter.unusedVariables false
set_option linter.unusedSimpArgs false
/-- What comes of a run: its leaks, one a step, its error, memory. -/
structure RO where
  ls : List L
  er : Int
  m : St
def runV : Nat → S → St → RO
  | 0, _, m => ⟨[], 80, m⟩
  | f + 1, s, m =>
    if (leakV s m).er = 0 then
      if (leakV s m).st = true then ⟨[(leakV s m).l], 0, (leakV s m).m⟩
      else ⟨(leakV s m).l :: (runV f (leakV s m).s (leakV s m).m).ls, (runV f (leakV s m).s (leakV s m).m).er, (runV f (leakV s m).s (leakV s m).m).m⟩
    else ⟨[], (leakV s m).er, (leakV s m).m⟩
/-- What the loop comes to: behind leaks that are told, what is left. -/
def RO.pre (a : List L) (r : RO) : RO := ⟨a ++ r.ls, r.er, r.m⟩
theorem run_err {f : Nat} {s x : S} {m m' : St} {l : L} {st : Bool} {er : Int} (h : leakV s m = ⟨x, l, st, er, m'⟩) (he : er ≠ 0) (a : List L) : RO.pre a (runV (f + 1) s m) = ⟨a, er, m'⟩ := by
  unfold runV RO.pre; rw [h]; simp only; rw [if_neg he]; simp
theorem run_stop {f : Nat} {s x : S} {m m' : St} {l : L} (h : leakV s m = ⟨x, l, true, 0, m'⟩) (a : List L) : RO.pre a (runV (f + 1) s m) = ⟨a ++ [l], 0, m'⟩ := by
  unfold runV RO.pre; rw [h]; rfl
theorem run_on {f : Nat} {s x : S} {m m' : St} {l : L} (h : leakV s m = ⟨x, l, false, 0, m'⟩) (a : List L) : RO.pre a (runV (f + 1) s m) = RO.pre (a ++ [l]) (runV f x m') := by
  conv => lhs; unfold runV RO.pre
  rw [h]; simp [RO.pre]
theorem run_zero (s : S) (m : St) (a : List L) : RO.pre a (runV 0 s m) = ⟨a, 80, m⟩ := by simp [runV, RO.pre]
/-- Errors of one step. -/
theorem takeF_er : ∀ (n op h : Nat), (Tp.takeF n op h).2.2 = 0 ∨ (Tp.takeF n op h).2.2 = 20
  | 0, _, _ => .inr rfl
  | n + 1, op, h => by
    unfold Tp.takeF
    split
    · exact .inl rfl
    · exact takeF_er n (op + 1) h
theorem lookV_er (m : St) (a : Int) : (lookV m a).2 = 0 ∨ (lookV m a).2 = 50 ∨ (lookV m a).2 = 51 := by
  unfold lookV
  split
  · split
    · exact .inl rfl
    · exact .inr (.inr rfl)
  · split
    · exact .inl rfl
    · split
      · exact .inl rfl
      · exact .inr (.inl rfl)
theorem doS_er (k D N M : Nat) (i : Int) (s : S) (m : St) : (doS k D N M i s m).2.1 ≠ 80 := by
  unfold doS
  split
  · show (0 : Int) ≠ 80; decide
  · split
    · show (lookV m _).2 ≠ 80
      rcases lookV_er m ((addrV k N M (BitVec.ofInt 32 i) s).toNat : Int) with h | h | h <;> rw [h] <;> decide
    · split
      · show storeE m _ ≠ 80
        unfold storeE; split <;> decide
      · show (0 : Int) ≠ 80; decide
theorem stepV_er (s : S) (m : St) : (stepV s m).2.2.1 ≠ 80 := by
  unfold stepV
  split
  · split
    · split
      · show (0 : Int) ≠ 80; decide
      · split
        · show (0 : Int) ≠ 80; decide
        · exact doS_er _ _ _ _ _ _ _
    · show (((Tp.takeF 21 0 (fetchV m (s.pc.toNat : Int)).1.toNat).2.2 : Nat) : Int) ≠ 80
      rcases takeF_er 21 0 (fetchV m (s.pc.toNat : Int)).1.toNat with h | h <;> rw [h] <;> decide
  · show (fetchV m _).2 ≠ 80
    unfold fetchV
    split
    · show (0 : Int) ≠ 80; decide
    · show (50 : Int) ≠ 80; decide
theorem leakV_er (s : S) (m : St) : (leakV s m).er ≠ 80 := by
  unfold leakV
  split
  · show (0 : Int) ≠ 80; decide
  · exact stepV_er s m
theorem leakV_m (s : S) (m : St) : (leakV s m).m = (stepV s m).2.2.2 := by unfold leakV; split <;> rfl
theorem leakV_e (s : S) (m : St) : (leakV s m).er = (stepV s m).2.2.1 := by
  unfold leakV; split
  · next h => exact h.symm
  · rfl
/-- How many leaks there are. -/
theorem run_len : ∀ (f : Nat) (s : S) (m : St), (runV f s m).ls.length ≤ f
  | 0, _, _ => Nat.le_refl _
  | f + 1, s, m => by
    unfold runV
    split
    · split
      · show 1 ≤ f + 1; omega
      · have := run_len f (leakV s m).s (leakV s m).m
        show ((_ :: _) : List L).length ≤ f + 1
        rw [List.length_cons]; omega
    · exact Nat.zero_le _
/-- With a greater limit a run that came to its end is the same. -/
theorem run_same : ∀ (f k : Nat) (s : S) (m : St), (runV f s m).er ≠ 80 → runV (f + k) s m = runV f s m
  | 0, _, _, _, h => absurd rfl h
  | f + 1, k, s, m, h => by
    rw [show f + 1 + k = f + k + 1 by omega]
    unfold runV at h ⊢
    split
    · rename_i h1
      rw [if_pos h1] at h
      split
      · rfl
      · rename_i h2
        rw [if_neg h2] at h
        rw [run_same f k _ _ h]
    · rfl
/-- One that did not goes on from there. -/
theorem run_more : ∀ (f k : Nat) (s : S) (m : St), (runV f s m).er = 80 → (runV f s m).ls.length = f ∧ ∃ t, (runV (f + k) s m).ls = (runV f s m).ls ++ t
  | 0, k, s, m, _ => ⟨rfl, _, rfl⟩
  | f + 1, k, s, m, h => by
    rw [show f + 1 + k = f + k + 1 by omega]
    unfold runV at h ⊢
    split
    · rename_i h1
      rw [if_pos h1] at h
      split
      · rename_i h2
        rw [if_pos h2] at h
        exact absurd (show (0 : Int) = 80 from h) (by decide)
      · rename_i h2
        rw [if_neg h2] at h
        obtain ⟨h3, t, h4⟩ := run_more f k _ _ h
        exact ⟨by rw [List.length_cons, h3], t, by simp only; rw [h4]; rfl⟩
    · rename_i h1
      rw [if_neg h1] at h
      exact absurd h (leakV_er s m)
/-- What memory keeps. -/
theorem doS_T (k D N M : Nat) (i : Int) (s : S) (m : St) : (doS k D N M i s m).2.2.T = m.T ∧ (doS k D N M i s m).2.2.W.length = m.W.length := by
  unfold doS
  split
  · exact ⟨rfl, rfl⟩
  · split
    · exact ⟨(loadS_len m _).2.2, congrArg List.length (loadS_len m _).2.1⟩
    · split
      · exact ⟨(storeS_len m _ _).2.2, (storeS_len m _ _).2.1⟩
      · exact ⟨rfl, rfl⟩
theorem stepV_T (s : S) (m : St) : (stepV s m).2.2.2.T = m.T ∧ (stepV s m).2.2.2.W.length = m.W.length := by
  unfold stepV
  split
  · split
    · split
      · exact ⟨rfl, rfl⟩
      · split
        · exact doS_T _ _ _ _ _ _ _
        · exact doS_T _ _ _ _ _ _ _
    · exact ⟨rfl, rfl⟩
  · exact ⟨rfl, rfl⟩
theorem run_T : ∀ (f : Nat) (s : S) (m : St), (runV f s m).m.T = m.T ∧ (runV f s m).m.W.length = m.W.length
  | 0, _, _ => ⟨rfl, rfl⟩
  | f + 1, s, m => by
    have h0 := stepV_T s m
    rw [← leakV_m] at h0
    unfold runV
    split
    · split
      · exact h0
      · have := run_T f (leakV s m).s (leakV s m).m
        exact ⟨this.1.trans h0.1, this.2.trans h0.2⟩
    · exact h0
theorem bd32 (a : BitVec 32) : 0 ≤ ((a.toNat : Nat) : Int) ∧ ((a.toNat : Nat) : Int) < 4294967296 := by have := a.isLt; omega
theorem doS_fit (k D N M : Nat) (i : Int) (s : S) (m : St) (h : Fit m) : Fit (doS k D N M i s m).2.2 := by
  unfold doS
  split
  · exact h
  · split
    · exact h.loadS _
    · split
      · exact h.storeS _ (bd32 _)
      · exact h
theorem stepV_fit (s : S) (m : St) (h : Fit m) : Fit (stepV s m).2.2.2 := by
  unfold stepV
  split
  · split
    · split
      · exact h
      · split
        · exact doS_fit _ _ _ _ _ _ _ h
        · exact doS_fit _ _ _ _ _ _ _ h
    · exact h
  · exact h
theorem run_fit : ∀ (f : Nat) (s : S) (m : St), Fit m → Fit (runV f s m).m
  | 0, _, _, h => h
  | f + 1, s, m, h => by
    have h0 := stepV_fit s m h
    rw [← leakV_m] at h0
    unfold runV
    split
    · split
      · exact h0
      · exact run_fit f _ _ h0
    · exact h0
/-- A longer tape. -/
def ext (m : St) (X : List Int) : St := { m with T := m.T ++ X }
theorem look_ext (m : St) (X : List Int) (a : Int) (h : (lookV m a).2 ≠ 51) : lookV (ext m X) a = lookV m a := by
  unfold lookV at h ⊢
  by_cases ha : a = 1073741824
  · rw [if_pos ha, if_pos ha]
    rw [if_pos ha] at h
    by_cases hd : m.d < m.T.length
    · rw [if_pos hd]
      have h1 : (ext m X).d < (ext m X).T.length := by show m.d < (m.T ++ X).length; rw [List.length_append]; omega
      rw [if_pos h1]
      show ((m.T ++ X).getD m.d 0, (0 : Int)) = _
      rw [List.getD_eq_getElem?_getD, List.getElem?_append_left hd, List.getD_eq_getElem?_getD]
    · rw [if_neg hd] at h
      exact absurd rfl h
  · rw [if_neg ha, if_neg ha]; rfl
theorem load_ext (m : St) (X : List Int) (a : Int) (h : (lookV m a).2 ≠ 51) : loadS (ext m X) a = ext (loadS m a) X := by
  unfold loadS
  rw [look_ext m X a h]
  split <;> rfl
theorem store_ext (m : St) (X : List Int) (a u : Int) : storeS (ext m X) a u = ext (storeS m a u) X := by
  unfold storeS
  show (if plcB a 536870912 4 m.W.length = true then _ else _) = _
  split <;> rfl
theorem doS_ext (k D N M : Nat) (i : Int) (s : S) (m : St) (X : List Int) (h : (doS k D N M i s m).2.1 ≠ 51) :
    doS k D N M i s (ext m X) = ((doS k D N M i s m).1, (doS k D N M i s m).2.1, ext (doS k D N M i s m).2.2 X) := by
  unfold doS at h ⊢
  split
  · rfl
  · rename_i h1
    rw [if_neg h1] at h
    split
    · rename_i h2
      rw [if_pos h2] at h
      rw [look_ext m X _ h, load_ext m X _ h]
    · split
      · rw [store_ext]; rfl
      · rfl
theorem fetch_ext (m : St) (X : List Int) (a : Int) : fetchV (ext m X) a = fetchV m a := rfl
theorem step_ext (s : S) (m : St) (X : List Int) (h : (stepV s m).2.2.1 ≠ 51) : stepV s (ext m X) = ((stepV s m).1, (stepV s m).2.1, (stepV s m).2.2.1, ext (stepV s m).2.2.2 X) := by
  unfold stepV at h ⊢
  rw [fetch_ext]
  split
  · rename_i h1
    rw [if_pos h1] at h
    split
    · rename_i h2
      rw [if_pos h2] at h
      split
      · rfl
      · rename_i h3
        rw [if_neg h3] at h
        have hd : (doS (Tp.takeF 21 0 (fetchV m (s.pc.toNat : Int)).1.toNat).1 (Tp.takeF 21 0 (fetchV m (s.pc.toNat : Int)).1.toNat).2.1.d.toNat (Tp.takeF 21 0 (fetchV m (s.pc.toNat : Int)).1.toNat).2.1.n.toNat (Tp.takeF 21 0 (fetchV m (s.pc.toNat : Int)).1.toNat).2.1.m.toNat (Tp.takeF 21 0 (fetchV m (s.pc.toNat : Int)).1.toNat).2.1.i s m).2.1 ≠ 51 := by
          by_cases h4 : (doS (Tp.takeF 21 0 (fetchV m (s.pc.toNat : Int)).1.toNat).1 (Tp.takeF 21 0 (fetchV m (s.pc.toNat : Int)).1.toNat).2.1.d.toNat (Tp.takeF 21 0 (fetchV m (s.pc.toNat : Int)).1.toNat).2.1.n.toNat (Tp.takeF 21 0 (fetchV m (s.pc.toNat : Int)).1.toNat).2.1.m.toNat (Tp.takeF 21 0 (fetchV m (s.pc.toNat : Int)).1.toNat).2.1.i s m).2.1 = 0
          · rw [h4]; decide
          · rw [if_neg h4] at h; exact h
        rw [doS_ext _ _ _ _ _ _ _ X hd]
        simp only
        split <;> rfl
    · rfl
  · rfl
theorem leak_ext (s : S) (m : St) (X : List Int) (h : (leakV s m).er ≠ 51) : leakV s (ext m X) = ⟨(leakV s m).s, (leakV s m).l, (leakV s m).st, (leakV s m).er, ext (leakV s m).m X⟩ := by
  rw [leakV_e] at h
  have hs := step_ext s m X h
  unfold leakV
  rw [hs]
  simp only
  split <;> rfl
/-- Random words beyond those that are drawn change nothing. -/
theorem run_ext : ∀ (f : Nat) (s : S) (m : St) (X : List Int), (runV f s m).er ≠ 51 → runV f s (ext m X) = ⟨(runV f s m).ls, (runV f s m).er, ext (runV f s m).m X⟩
  | 0, _, _, _, _ => rfl
  | f + 1, s, m, X, h => by
    have h0 : (leakV s m).er ≠ 51 := fun e => by
      unfold runV at h
      rw [if_neg (by rw [e]; decide)] at h
      exact h e
    have hl := leak_ext s m X h0
    unfold runV at h ⊢
    rw [hl]
    simp only
    split
    · rename_i h1
      rw [if_pos h1] at h
      split
      · rfl
      · rename_i h2
        rw [if_neg h2] at h
        rw [run_ext f _ _ X h]
    · rfl
theorem run_ext51 : ∀ (f : Nat) (s : S) (m : St) (X : List Int), (runV f s m).ls.length ≤ (runV f s (ext m X)).ls.length
  | 0, _, _, _ => Nat.le_refl _
  | f + 1, s, m, X => by
    by_cases h0 : (leakV s m).er = 51
    · conv => lhs; unfold runV
      rw [if_neg (by rw [h0]; decide)]
      exact Nat.zero_le _
    · have hl := leak_ext s m X h0
      unfold runV
      rw [hl]
      simp only
      split
      · split
        · exact Nat.le_refl _
        · simp only [List.length_cons]
          have := run_ext51 f (leakV s m).s (leakV s m).m X
          omega
      · exact Nat.le_refl _
end Go.Proofs.YtkafmpdjpjgkgaaDoor.Rn
/- DERIVED. Of no program: append to an empty slice literal, wherever that lies: a copy, in a world that only grew. By an AI agent. -/
namespace Go.Proofs.YtkafmpdjpjgkgaaDoor.Args
open Go Go.ChangeShapes Go.WideShapes Go.ChangeAt Go.RowKit
set_option linter.unusedVariables false
/-- What lies, in a block that came behind. -/
def Liv (base : Nat) (w : World) (A : Option Addr) (xs : List Value) : Prop := ∀ j u, xs[j]? = some u → ∃ g, A = some ⟨g, 0, none⟩ ∧ base ≤ g ∧ w.cell? ⟨g, j, none⟩ = some u
theorem Liv.nil (base : Nat) (w : World) (A : Option Addr) : Liv base w A [] := fun j u h => by simp at h
theorem Liv.lies {base : Nat} {w : World} {A : Option Addr} {xs : List Value} (h : Liv base w A xs) : Lies w A xs := fun j u hj => by
  obtain ⟨g, rfl, _, hc⟩ := h j u hj
  exact ⟨_, rfl, by rw [add_plain, Nat.zero_add]; exact hc⟩
theorem Liv.low {base base' : Nat} {w : World} {A : Option Addr} {xs : List Value} (h : Liv base w A xs) (hb : base' ≤ base) : Liv base' w A xs := fun j u hj => by
  obtain ⟨g, e, h1, h2⟩ := h j u hj
  exact ⟨g, e, Nat.le_trans hb h1, h2⟩
theorem Liv.upd {base : Nat} {w w' : World} {A : Option Addr} {xs : List Value} {X : Nat → Prop} (h : Liv base w A xs) (hu : Upd X w w') (hx : ∀ k, base ≤ k → ¬ X k) : Liv base w' A xs := fun j u hj => by
  obtain ⟨g, e, h1, h2⟩ := h j u hj
  exact ⟨g, e, h1, (hu.cell (p := ⟨g, j, none⟩) (World.block_lt_of_cell? w _ h2) (hx g h1)).trans h2⟩
theorem Liv.below {base : Nat} {w w' : World} {A : Option Addr} {xs : List Value} (h : Liv base w A xs) (hb : Below w.heap.size w w') : Liv base w' A xs := h.upd (Upd.of_below hb fun _ => False) fun _ _ => id
theorem liv_own {w : World} {base : Nat} {e : TypeId} {size n c : Nat} {A : Option Addr} {xs : List Value} (h : w.ownsRow base e size (.slice A n c) n xs) : Liv base w A xs := by
  rcases h.2 with ⟨e1, rfl⟩ | ⟨g, cap, cur, e1, hb, _⟩
  · have : xs = [] := List.eq_nil_of_length_eq_zero (by simpa using h.1)
    subst this
    exact Liv.nil _ _ _
  · injection e1 with e1 e2 e3
    subst e1
    exact fun j u hj => ⟨g, rfl, hb, by have := h.cells (g := g) rfl j u hj; rw [add_plain, Nat.zero_add] at this; exact this⟩
section
variable {P : Program} {w : World}
theorem run_fresh0 (t ty e : TypeId) (i : TypeInfo) (z : Value) (size bytes : Nat) (ht : P.underlying t = some (.slice e)) (hi : P.info? e = some i) (hz : i.zero = some z)
    (hsize : i.size = size) (hby : i.bytes = bytes) (hzs : z.cells.size = size) (hsz : 0 < size) (b : Nat)
    (A : Option Addr) (m c : Nat) (news : List Value) (hl : news.length = m * size) (hL : Lies w A news) (h63 : m ≤ maxLen) (hbytes : m * bytes ≤ 140737488355328) :
    ∃ A' c' w', (Builtin.append_ #[t, t] ty #[.slice (some ⟨b, 0, none⟩) 0 0, .slice A m c]).run P w = .ok (.slice A' m c') w' ∧ m ≤ c' ∧ c' ≤ maxLen ∧ Liv w.heap.size w' A' news ∧ w.grownBy w' none := by
  by_cases hm : m = 0
  · subst hm
    have hn : news = [] := List.eq_nil_of_length_eq_zero (by simpa using hl)
    subst hn
    refine ⟨some ⟨b, 0, none⟩, 0, w, ?_, Nat.le_refl _, by decide, Liv.nil _ _ _, World.grownBy.refl w _⟩
    cases A with
    | none => simp [Builtin.append_, run_underlying ht, sizeOf, typeInfo, hi, Builtin.lenOf, Builtin.firstCells, storeCells]
    | some a =>
      have hl : (loadCells a 0).run P w = .ok #[] w := by
        have := run_loadCells_list (P := P) w a [] (fun j v hj => by simp at hj)
        simpa using this
      simp [Builtin.append_, run_underlying ht, sizeOf, typeInfo, hi, Builtin.lenOf, Builtin.firstCells, storeCells, hl]
  · cases A with
    | none =>
      have : 0 < news.length := by rw [hl]; exact Nat.mul_pos (by omega) hsz
      obtain ⟨a, h, _⟩ := hL 0 (news[0]'this) (List.getElem?_eq_getElem this)
      cases h
    | some ad =>
      obtain ⟨v', w', hr, h2, h3⟩ := run_append_arg_grows (P := P) (w := w) t ty e i z size bytes ht hi hz hsize hby hzs hsz ⟨b, 0, none⟩ 0 0 [] (by simp) (fun j u hj => by simp at hj) ad m c news hl (fun j u hj => by
        obtain ⟨a, ha, hc⟩ := hL j u hj
        cases ha; exact hc) (by omega) (by omega) (by rw [Nat.zero_add]; exact hbytes)
      rw [Nat.zero_add, List.nil_append] at h2
      obtain ⟨A', c', rfl, h4, h5, h6⟩ := sl_own h2
      exact ⟨A', c', w', hr, h4, h5, liv_own h2, h3⟩
theorem wp_fresh0 {o : Oper} {a : Act} {K : Act → World → Prop} {Q : Exit → Act → World → Prop} (s x : Operand) (t : TypeId)
    (ho : o.op = .call { callee := .builtin .append, args := #[s, x], argTypes := #[t, t] })
    (e : TypeId) (i : TypeInfo) (z : Value) (size bytes : Nat) (ht : P.underlying t = some (.slice e)) (hi : P.info? e = some i) (hz : i.zero = some z)
    (hsize : i.size = size) (hby : i.bytes = bytes) (hzs : z.cells.size = size) (hsz : 0 < size) (b : Nat) (hs : a.eval s = .slice (some ⟨b, 0, none⟩) 0 0)
    (A : Option Addr) (m c : Nat) (news : List Value) (hx : a.eval x = .slice A m c) (hl : news.length = m * size) (hL : Lies w A news) (h63 : m ≤ maxLen) (hbytes : m * bytes ≤ 140737488355328)
    (h : ∀ A' c' w', m ≤ c' → c' ≤ maxLen → Liv w.heap.size w' A' news → Below w.heap.size w w' → K (a.put o.dst (.slice A' m c')) w') : o.wp P a w K Q := by
  obtain ⟨A', c', w', hrun, h1, h2, h3, h4⟩ := run_fresh0 (P := P) t o.type e i z size bytes ht hi hz hsize hby hzs hsz b A m c news hl hL h63 hbytes
  unfold Oper.wp execOp
  simp only [ho, resolve, invoke, builtin, Sem.run_bind, Sem.run_pure, Result.andThen_ok, List.map_toArray, List.map_cons, List.map_nil, hs, hx, hrun]
  exact h A' c' w' h1 h2 h3 ((Below.refl w.heap.size w).grown h4 (Nat.le_refl _) (fun k e => by cases e))
theorem step_fresh0 {ops : Array Oper} {o : Oper} {a : Act} {K : Act → World → Prop} {Q : Exit → Act → World → Prop} {E : Prop} (hgd : o.guard = none) (s x : Operand) (t : TypeId)
    (ho : o.op = .call { callee := .builtin .append, args := #[s, x], argTypes := #[t, t] })
    (e : TypeId) (i : TypeInfo) (z : Value) (size bytes : Nat) (ht : P.underlying t = some (.slice e)) (hi : P.info? e = some i) (hz : i.zero = some z)
    (hsize : i.size = size) (hby : i.bytes = bytes) (hzs : z.cells.size = size) (hsz : 0 < size) (b : Nat) (hs : a.eval s = .slice (some ⟨b, 0, none⟩) 0 0)
    (A : Option Addr) (m c : Nat) (news : List Value) (hx : a.eval x = .slice A m c) (hl : news.length = m * size) (hL : Lies w A news) (h63 : m ≤ maxLen) (hbytes : m * bytes ≤ 140737488355328)
    (h : ∀ A' c' w', m ≤ c' → c' ≤ maxLen → Liv w.heap.size w' A' news → Below w.heap.size w w' → K (a.put o.dst (.slice A' m c')) w') :
    if Region.wanted o (yielded ops a.tmps) = true then Oper.wp P o a w K Q else E := by
  have hw : Region.wanted o (yielded ops a.tmps) = true := by simp [Region.wanted, hgd]
  rw [if_pos hw]
  exact wp_fresh0 s x t ho e i z size bytes ht hi hz hsize hby hzs hsz b hs A m c news hx hl hL h63 hbytes h
end
end Go.Proofs.YtkafmpdjpjgkgaaDoor.Args
