/- DERIVED. PaRd, PaRe in one text. By an AI agent. -/
import Derived.Test.YtpoepignpdfleaaGreatDoorZ05
import Derived.Test.YtpoepignpdfleaaGreatDoorZ06
/- DERIVED. What is read, whatever the fuel; parts with signs between, level by level and as one loop. Of no program. By an AI agent. -/
namespace Go.Proofs.YtpoepignpdfleaaGreatDoor.Pa
open Lx
variable {num : Bs → Nat × Nat}
def Ev (K : Nat → OO) (o : Out) : Prop := ∃ g, ∀ f, g ≤ f → K f = some o
def Rd (num : Bs → Nat × Nat) (nt : NT) (d : Nat) (l : List Tk) (o : Out) : Prop := Ev (fun f => pF num f nt d l) o
theorem Rd.at_ {nt : NT} {d : Nat} {l : List Tk} {o : Out} (h : Rd num nt d l o) : ∃ f, pF num f nt d l = some o := by
  obtain ⟨g, hg⟩ := h; exact ⟨g, hg g (Nat.le_refl _)⟩
theorem Rd.one {nt : NT} {d : Nat} {l : List Tk} {o o' : Out} (h : Rd num nt d l o) (h' : Rd num nt d l o') : o = o' := by
  obtain ⟨f, hf⟩ := h.at_; obtain ⟨g, hg⟩ := h'.at_; exact pF_one hf hg
theorem ev_now (o : Out) : Ev (fun _ => some o) o := ⟨0, fun _ _ => rfl⟩
theorem ev_bnd {A : Nat → OO} {K : Nat → List Tr → List Tk → OO} {xs : List Tr} {r : List Tk} {o : Out} (h : Ev A (.ok xs r)) (h2 : Ev (fun f => K f xs r) o) : Ev (fun f => bnd (A f) (K f)) o := by
  obtain ⟨a, ha⟩ := h
  obtain ⟨b, hb⟩ := h2
  refine ⟨max a b, fun f hf => ?_⟩
  show bnd (A f) (K f) = _
  rw [ha f (Nat.le_trans (Nat.le_max_left _ _) hf)]
  exact hb f (Nat.le_trans (Nat.le_max_right _ _) hf)
theorem ev_bad {A : Nat → OO} {K : Nat → List Tr → List Tk → OO} {a e : Nat} (h : Ev A (.bad a e)) : Ev (fun f => bnd (A f) (K f)) (.bad a e) := by
  obtain ⟨g, hg⟩ := h
  refine ⟨g, fun f hf => ?_⟩
  show bnd (A f) (K f) = _
  rw [hg f hf]; rfl
theorem rd_eq {nt : NT} {d : Nat} {l : List Tk} {o : Out} {K : Nat → OO} (h : Ev K o) (he : ∀ f, pF num (f + 1) nt d l = K f) : Rd num nt d l o := by
  obtain ⟨g, hg⟩ := h
  refine ⟨g + 1, fun f hf => ?_⟩
  obtain ⟨k, rfl⟩ : ∃ k, f = k + 1 := ⟨f - 1, by omega⟩
  show pF num (k + 1) nt d l = _
  rw [he]
  exact hg k (by omega)
theorem r_lev {n d : Nat} {l r : List Tk} {xs : List Tr} {o : Out} (hn : n < 5) (h : Rd num (.lev (n + 1)) d l (.ok xs r)) (h2 : Rd num (.more n (hd xs)) d r o) : Rd num (.lev n) d l o :=
  rd_eq (ev_bnd (K := fun f xs r => pF num f (.more n (hd xs)) d r) h h2) fun f => by
    conv => lhs; unfold pF
    rw [if_pos hn]
theorem r_lev_bad {n d a e : Nat} {l : List Tk} (hn : n < 5) (h : Rd num (.lev (n + 1)) d l (.bad a e)) : Rd num (.lev n) d l (.bad a e) :=
  rd_eq (ev_bad (K := fun f xs r => pF num f (.more n (hd xs)) d r) h) fun f => by
    conv => lhs; unfold pF
    rw [if_pos hn]
theorem r_stop {n d : Nat} {l : List Tk} {x : Tr} (h : ∀ t r, l = t :: r → onS n t = false) : Rd num (.more n x) d l (.ok [x] l) :=
  rd_eq (ev_now _) fun f => by
    cases l with
    | nil => rfl
    | cons t r =>
      conv => lhs; unfold pF
      simp only
      rw [if_neg (by rw [h t r rfl]; decide)]
def bin (n : Nat) (x : Tr) (s : Bs) (ys : List Tr) : Tr := .mk (if n = 3 then 4 else 3) x.place s 0 [] (x :: ys)
theorem r_go {n d : Nat} {t : Tk} {r r' : List Tk} {x : Tr} {ys : List Tr} {o : Out} (ht : onS n t = true) (h : Rd num (.lev (n + 1)) d r (.ok ys r')) (h2 : Rd num (.more n (bin n x t.s ys)) d r' o) : Rd num (.more n x) d (t :: r) o :=
  rd_eq (ev_bnd (K := fun f ys r' => pF num f (.more n (bin n x t.s ys)) d r') h h2) fun f => by
    conv => lhs; unfold pF
    simp only
    rw [if_pos ht]; rfl
theorem r_go_bad {n d a e : Nat} {t : Tk} {r : List Tk} {x : Tr} (ht : onS n t = true) (h : Rd num (.lev (n + 1)) d r (.bad a e)) : Rd num (.more n x) d (t :: r) (.bad a e) :=
  rd_eq (ev_bad (K := fun f ys r' => pF num f (.more n (bin n x t.s ys)) d r') h) fun f => by
    conv => lhs; unfold pF
    simp only
    rw [if_pos ht]; rfl
/-- No sign of this level, or of one above it, comes. -/
def Stp (n : Nat) (l : List Tk) : Prop := ∀ t r, l = t :: r → ∀ m, n ≤ m → m < 5 → onS m t = false
theorem lev_stp : ∀ (f : Nat), (∀ (n d : Nat) (l r : List Tk) (xs : List Tr), pF num f (.lev n) d l = some (.ok xs r) → Stp n r) ∧
    (∀ (n : Nat) (x : Tr) (d : Nat) (l r : List Tk) (xs : List Tr), Stp (n + 1) l → pF num f (.more n x) d l = some (.ok xs r) → Stp n r) := by
  intro f
  induction f with
  | zero => exact ⟨fun n d l r xs h => (by cases h), fun n x d l r xs _ h => (by cases h)⟩
  | succ f ih =>
    refine ⟨fun n d l r xs h => ?_, fun n x d l r xs hs h => ?_⟩
    · by_cases hn : n < 5
      · unfold pF at h; rw [if_pos hn] at h
        rcases h1 : pF num f (.lev (n + 1)) d l with _ | ⟨ys, r1⟩ | ⟨a, e⟩
        · rw [h1] at h; cases h
        · rw [h1] at h
          exact ih.2 n _ d r1 r xs (ih.1 _ _ _ _ _ h1) h
        · rw [h1] at h; cases h
      · intro t r' _ m h1 h2; omega
    · cases l with
      | nil =>
        unfold pF at h
        simp only [Option.some.injEq, Out.ok.injEq] at h
        obtain ⟨_, rfl⟩ := h
        intro t r' h; cases h
      | cons t r0 =>
        unfold pF at h
        simp only at h
        by_cases ht : onS n t = true
        · rw [if_pos ht] at h
          rcases h1 : pF num f (.lev (n + 1)) d r0 with _ | ⟨ys, r1⟩ | ⟨a, e⟩
          · rw [h1] at h; cases h
          · rw [h1] at h
            exact ih.2 n _ d r1 r xs (ih.1 _ _ _ _ _ h1) h
          · rw [h1] at h; cases h
        · rw [if_neg ht] at h
          simp only [Option.some.injEq, Out.ok.injEq] at h
          obtain ⟨_, rfl⟩ := h
          intro t' r' e m h1 h2
          cases e
          by_cases hm : m = n
          · subst hm; simpa using ht
          · exact hs t r0 rfl m (by omega) h2
theorem Rd.stp {n d : Nat} {l r : List Tk} {xs : List Tr} (h : Rd num (.lev n) d l (.ok xs r)) : Stp n r := by
  obtain ⟨f, hf⟩ := h.at_; exact (lev_stp f).1 _ _ _ _ _ hf
/-- What goes on behind a part with signs of m levels, from the highest one, j + m - 1, down to j. -/
def Ch (num : Bs → Nat × Nat) (j d : Nat) : Nat → Tr → List Tk → Out → Prop
  | 0, x, r, o => o = .ok [x] r
  | m + 1, x, r, o => (∃ y r', Rd num (.more (j + m) x) d r (.ok [y] r') ∧ Ch num j d m y r' o) ∨ (∃ a e, Rd num (.more (j + m) x) d r (.bad a e) ∧ o = .bad a e)
theorem ch_lev {j d : Nat} {l : List Tk} {o : Out} : ∀ (m : Nat) (x : Tr) (r : List Tk), j + m ≤ 5 → Rd num (.lev (j + m)) d l (.ok [x] r) → Ch num j d m x r o → Rd num (.lev j) d l o
  | 0, x, r, _, h, hc => by
    have : o = .ok [x] r := hc
    subst this; exact h
  | m + 1, x, r, hm, h, hc => by
    rcases hc with ⟨y, r', h1, h2⟩ | ⟨a, e, h1, rfl⟩
    · exact ch_lev m y r' (by omega) (r_lev (by omega) h h1) h2
    · have h3 : Rd num (.lev (j + m)) d l (.bad a e) := r_lev (by omega) h h1
      clear h h1
      induction m with
      | zero => exact h3
      | succ m ih => exact ih (by omega) (r_lev_bad (by omega) h3)
theorem more_none {n d : Nat} {x : Tr} {r : List Tk} {o : Out} (h : ∀ t r', r = t :: r' → onS n t = false) (hr : Rd num (.more n x) d r o) : o = .ok [x] r := hr.one (r_stop h)
/-- Down to a level below which signs may come. -/
theorem ch_down {j d : Nat} {o : Out} {x : Tr} {r : List Tk} : ∀ (m n : Nat), n ≤ m → j + m ≤ 5 → (∀ t r', r = t :: r' → ∀ i, j + n ≤ i → i < 5 → onS i t = false) → (Ch num j d m x r o ↔ Ch num j d n x r o)
  | 0, n, hn, _, _ => by
    obtain rfl : n = 0 := by omega
    exact Iff.rfl
  | m + 1, n, hn, hm, h => by
    by_cases e : n = m + 1
    · subst e; exact Iff.rfl
    · refine Iff.trans ?_ (ch_down m n (by omega) (by omega) h)
      have hs : ∀ t r', r = t :: r' → onS (j + m) t = false := fun t r' e => h t r' e _ (by omega) (by omega)
      constructor
      · rintro (⟨y, r', h1, h2⟩ | ⟨a, e, h1, _⟩)
        · have := more_none hs h1
          simp only [Out.ok.injEq, List.cons.injEq, and_true] at this
          obtain ⟨rfl, rfl⟩ := this
          exact h2
        · have := more_none hs h1; cases this
      · intro h2
        exact .inl ⟨x, r, r_stop hs, h2⟩
/-- A sign of level q, what stands behind it, and on. -/
theorem ch_sign {j d m q : Nat} {o : Out} {x : Tr} {t : Tk} {r r' : List Tk} {ys : List Tr} (hm : j + m = 5) (hq : j ≤ q) (hq5 : q < 5) (ht : ∀ i, i < 5 → onS i t = decide (i = q)) (h1 : Rd num (.lev (q + 1)) d r (.ok ys r'))
    (h2 : Ch num j d m (bin q x t.s ys) r' o) : Ch num j d m x (t :: r) o := by
  obtain ⟨k, rfl⟩ : ∃ k, q = j + k := ⟨q - j, by omega⟩
  refine (ch_down m (k + 1) (by omega) (by omega) fun t' r0 e i hi h5 => ?_).2 ?_
  · cases e
    rw [ht i h5]; simp; omega
  · have hstp := h1.stp
    have h3 := (ch_down m (k + 1) (by omega) (by omega) fun t' r0 e i hi h5 => hstp t' r0 e i (by omega) h5).1 h2
    have hon : onS (j + k) t = true := by rw [ht _ hq5]; simp
    rcases h3 with ⟨y, r2, h4, h5⟩ | ⟨a, e, h4, rfl⟩
    · exact .inl ⟨y, r2, r_go hon h1 h4, h5⟩
    · exact .inr ⟨a, e, r_go hon h1 h4, rfl⟩
theorem ch_sign_bad {j d m q a e : Nat} {x : Tr} {t : Tk} {r : List Tk} (hm : j + m = 5) (hq : j ≤ q) (hq5 : q < 5) (ht : ∀ i, i < 5 → onS i t = decide (i = q)) (h1 : Rd num (.lev (q + 1)) d r (.bad a e)) :
    Ch num j d m x (t :: r) (.bad a e) := by
  obtain ⟨k, rfl⟩ : ∃ k, q = j + k := ⟨q - j, by omega⟩
  refine (ch_down m (k + 1) (by omega) (by omega) fun t' r0 e i hi h5 => ?_).2 ?_
  · cases e
    rw [ht i h5]; simp; omega
  · exact .inr ⟨a, e, r_go_bad (by rw [ht _ hq5]; simp) h1, rfl⟩
/-- No sign of these levels. -/
theorem ch_end {j d m : Nat} {x : Tr} {r : List Tk} (hm : j + m ≤ 5) (h : ∀ t r', r = t :: r' → ∀ i, j ≤ i → i < 5 → onS i t = false) : Ch num j d m x r (.ok [x] r) :=
  (ch_down m 0 (by omega) hm (by simpa using h)).2 rfl
end Go.Proofs.YtpoepignpdfleaaGreatDoor.Pa
/- DERIVED. The grammar's rules, whatever the fuel. Of no program. By an AI agent. -/
namespace Go.Proofs.YtpoepignpdfleaaGreatDoor.Pa
open Lx
variable {num : Bs → Nat × Nat}
theorem must_y {b : Bs} {t : Tk} {r : List Tk} (h : isS b t = true) (f : List Tk → OO) : must b (t :: r) f = f r := if_pos h
theorem must_n {b : Bs} {t : Tk} {r : List Tk} (h : isS b t = false) (f : List Tk → OO) : must b (t :: r) f = some (.bad t.at_ 100) := if_neg (by rw [h]; decide)
theorem name_y {t : Tk} {r : List Tk} (h : t.k = 1) (f : Bs → List Tk → OO) : nameK (t :: r) f = f t.s r := if_pos h
theorem name_n {t : Tk} {r : List Tk} (h : t.k ≠ 1) (f : Bs → List Tk → OO) : nameK (t :: r) f = some (.bad t.at_ 100) := if_neg h
theorem isS_low {t : Tk} (h : t.k ≤ 2) (b : Bs) : isS b t = false := by unfold isS; simp; omega
theorem ev_eq {K K' : Nat → OO} {o : Out} (h : Ev K o) (he : ∀ f, K' f = K f) : Ev K' o := by
  obtain ⟨g, hg⟩ := h; exact ⟨g, fun f hf => (he f).trans (hg f hf)⟩
/-- UNARY, told by what it begins with. -/
theorem l5 (f d : Nat) (t : Tk) (r : List Tk) : pF num (f + 1) (.lev 5) d (t :: r) = if 60 < d then wrong (t :: r) 150
        else if (isS [126] t || isS [45] t) = true then bnd (pF num f (.lev 5) (d + 1) r) fun xs r' => some (.ok [.mk 2 t.at_ t.s 0 [] xs] r')
        else if t.k = 2 then (if (num t.s).2 = 0 then some (.ok [.mk 0 t.at_ [] (num t.s).1 [] []] r) else wrong (t :: r) (if (num t.s).2 = 4 then 100 else 150))
        else if isS [40] t = true then bnd (pF num f (.lev 0) (d + 1) r) fun xs r' => must [41] r' fun r'' => some (.ok (xs.map (·.put t.at_)) r'')
        else nameK (t :: r) fun s r => match r with
          | [] => some (.ok [.mk 1 t.at_ s 0 [] []] [])
          | u :: r' => if isS [40] u = true then bnd (pF num f (.lev 0) (d + 1) r') fun xs r'' => bnd (pF num f (.args xs) (d + 1) r'') fun ys r3 => must [41] r3 fun r4 => some (.ok [.mk 5 t.at_ s 0 [] ys] r4)
            else some (.ok [.mk 1 t.at_ s 0 [] []] (u :: r')) := rfl
theorem r_deep5 {d : Nat} {t : Tk} {r : List Tk} (hd : 60 < d) : Rd num (.lev 5) d (t :: r) (.bad t.at_ 150) := rd_eq (ev_now _) fun f => by rw [l5, if_pos hd]; rfl
theorem lev_bad {n m d a e : Nat} {l : List Tk} (h : Rd num (.lev (n + m)) d l (.bad a e)) (hn : n + m ≤ 5) : Rd num (.lev n) d l (.bad a e) := by
  induction m with
  | zero => exact h
  | succ m ih => exact ih (r_lev_bad (by omega) h) (by omega)
theorem r_deep0 {d : Nat} {t : Tk} {r : List Tk} (hd : 60 < d) : Rd num (.lev 0) d (t :: r) (.bad t.at_ 150) := lev_bad (m := 5) (r_deep5 hd) (by omega)
theorem r_un {d : Nat} {t : Tk} {r r' : List Tk} {xs : List Tr} (hd : d ≤ 60) (ht : (isS [126] t || isS [45] t) = true) (h : Rd num (.lev 5) (d + 1) r (.ok xs r')) : Rd num (.lev 5) d (t :: r) (.ok [.mk 2 t.at_ t.s 0 [] xs] r') :=
  rd_eq (ev_bnd (K := fun _ xs r' => some (.ok [.mk 2 t.at_ t.s 0 [] xs] r')) h (ev_now _)) fun f => by rw [l5, if_neg (by omega), if_pos ht]
theorem r_un_bad {d a e : Nat} {t : Tk} {r : List Tk} (hd : d ≤ 60) (ht : (isS [126] t || isS [45] t) = true) (h : Rd num (.lev 5) (d + 1) r (.bad a e)) : Rd num (.lev 5) d (t :: r) (.bad a e) :=
  rd_eq (ev_bad (K := fun _ xs r' => some (.ok [.mk 2 t.at_ t.s 0 [] xs] r')) h) fun f => by rw [l5, if_neg (by omega), if_pos ht]
theorem r_num {d : Nat} {t : Tk} {r : List Tk} (hd : d ≤ 60) (ht : t.k = 2) (h : (num t.s).2 = 0) : Rd num (.lev 5) d (t :: r) (.ok [.mk 0 t.at_ [] (num t.s).1 [] []] r) :=
  rd_eq (ev_now _) fun f => by rw [l5, if_neg (by omega), if_neg (by rw [isS_low (by omega), isS_low (by omega)]; decide), if_pos ht, if_pos h]
theorem r_num_bad {d : Nat} {t : Tk} {r : List Tk} (hd : d ≤ 60) (ht : t.k = 2) (h : (num t.s).2 ≠ 0) : Rd num (.lev 5) d (t :: r) (.bad t.at_ (if (num t.s).2 = 4 then 100 else 150)) :=
  rd_eq (ev_now _) fun f => by rw [l5, if_neg (by omega), if_neg (by rw [isS_low (by omega), isS_low (by omega)]; decide), if_pos ht, if_neg h]; rfl
theorem par_k {t : Tk} (ht : isS [40] t = true) : (isS [126] t || isS [45] t) = false ∧ t.k ≠ 2 := by
  unfold isS at ht ⊢
  simp only [Bool.and_eq_true, decide_eq_true_eq] at ht
  have := eq_of_beq ht.2
  rw [this]
  exact ⟨by simp, by omega⟩
theorem r_par {d : Nat} {t u : Tk} {r r' : List Tk} {xs : List Tr} (hd : d ≤ 60) (ht : isS [40] t = true) (h : Rd num (.lev 0) (d + 1) r (.ok xs (u :: r'))) (hu : isS [41] u = true) : Rd num (.lev 5) d (t :: r) (.ok (xs.map (·.put t.at_)) r') :=
  rd_eq (ev_bnd (K := fun _ xs r' => must [41] r' fun r'' => some (.ok (xs.map (·.put t.at_)) r'')) h (ev_eq (ev_now _) fun f => must_y hu _)) fun f => by
    rw [l5, if_neg (by omega), if_neg (by rw [(par_k ht).1]; decide), if_neg (par_k ht).2, if_pos ht]
theorem r_par_end {d : Nat} {t u : Tk} {r r' : List Tk} {xs : List Tr} (hd : d ≤ 60) (ht : isS [40] t = true) (h : Rd num (.lev 0) (d + 1) r (.ok xs (u :: r'))) (hu : isS [41] u = false) : Rd num (.lev 5) d (t :: r) (.bad u.at_ 100) :=
  rd_eq (ev_bnd (K := fun _ xs r' => must [41] r' fun r'' => some (.ok (xs.map (·.put t.at_)) r'')) h (ev_eq (ev_now _) fun f => must_n hu _)) fun f => by
    rw [l5, if_neg (by omega), if_neg (by rw [(par_k ht).1]; decide), if_neg (par_k ht).2, if_pos ht]
theorem r_par_bad {d a e : Nat} {t : Tk} {r : List Tk} (hd : d ≤ 60) (ht : isS [40] t = true) (h : Rd num (.lev 0) (d + 1) r (.bad a e)) : Rd num (.lev 5) d (t :: r) (.bad a e) :=
  rd_eq (ev_bad (K := fun _ xs r' => must [41] r' fun r'' => some (.ok (xs.map (·.put t.at_)) r'')) h) fun f => by
    rw [l5, if_neg (by omega), if_neg (by rw [(par_k ht).1]; decide), if_neg (par_k ht).2, if_pos ht]
theorem r_nothing {d : Nat} {t : Tk} {r : List Tk} (hd : d ≤ 60) (h1 : (isS [126] t || isS [45] t) = false) (h2 : t.k ≠ 2) (h3 : isS [40] t = false) (h4 : t.k ≠ 1) : Rd num (.lev 5) d (t :: r) (.bad t.at_ 100) :=
  rd_eq (ev_now _) fun f => by rw [l5, if_neg (by omega), if_neg (by rw [h1]; decide), if_neg h2, if_neg (by rw [h3]; decide), name_n h4]
theorem nm5 (f d : Nat) (t : Tk) (r : List Tk) (hd : d ≤ 60) (ht : t.k = 1) : pF num (f + 1) (.lev 5) d (t :: r) = match r with
          | [] => some (.ok [.mk 1 t.at_ t.s 0 [] []] [])
          | u :: r' => if isS [40] u = true then bnd (pF num f (.lev 0) (d + 1) r') fun xs r'' => bnd (pF num f (.args xs) (d + 1) r'') fun ys r3 => must [41] r3 fun r4 => some (.ok [.mk 5 t.at_ t.s 0 [] ys] r4)
            else some (.ok [.mk 1 t.at_ t.s 0 [] []] (u :: r')) := by
  rw [l5, if_neg (by omega), if_neg (by rw [isS_low (by omega), isS_low (by omega)]; decide), if_neg (by omega), if_neg (by rw [isS_low (by omega)]; decide), name_y ht]
theorem r_name {d : Nat} {t u : Tk} {r : List Tk} (hd : d ≤ 60) (ht : t.k = 1) (hu : isS [40] u = false) : Rd num (.lev 5) d (t :: u :: r) (.ok [.mk 1 t.at_ t.s 0 [] []] (u :: r)) :=
  rd_eq (ev_now _) fun f => by rw [nm5 _ _ _ _ hd ht]; exact if_neg (by rw [hu]; decide)
/-- A call's arguments, with the closing bracket. -/
def ArK (num : Bs → Nat × Nat) (f d a : Nat) (s : Bs) (r : List Tk) : OO := bnd (pF num f (.lev 0) (d + 1) r) fun xs r'' => bnd (pF num f (.args xs) (d + 1) r'') fun ys r3 => must [41] r3 fun r4 => some (.ok [.mk 5 a s 0 [] ys] r4)
theorem r_call {d : Nat} {t u : Tk} {r : List Tk} {o : Out} (hd : d ≤ 60) (ht : t.k = 1) (hu : isS [40] u = true) (h : Ev (fun f => ArK num f d t.at_ t.s r) o) : Rd num (.lev 5) d (t :: u :: r) o :=
  rd_eq h fun f => by rw [nm5 _ _ _ _ hd ht]; exact if_pos hu
theorem r_args_stop {d : Nat} {t : Tk} {r : List Tk} {xs : List Tr} (ht : isS [44] t = false) : Rd num (.args xs) d (t :: r) (.ok xs (t :: r)) :=
  rd_eq (ev_now _) fun f => by
    conv => lhs; unfold pF
    simp only
    rw [if_neg (by rw [ht]; decide)]
theorem r_args {d : Nat} {t : Tk} {r r' : List Tk} {xs ys : List Tr} {o : Out} (ht : isS [44] t = true) (h : Rd num (.lev 0) d r (.ok ys r')) (h2 : Rd num (.args (xs ++ ys)) d r' o) : Rd num (.args xs) d (t :: r) o :=
  rd_eq (ev_bnd (K := fun f ys r' => pF num f (.args (xs ++ ys)) d r') h h2) fun f => by
    conv => lhs; unfold pF
    simp only
    rw [if_pos ht]
theorem r_args_bad {d a e : Nat} {t : Tk} {r : List Tk} {xs : List Tr} (ht : isS [44] t = true) (h : Rd num (.lev 0) d r (.bad a e)) : Rd num (.args xs) d (t :: r) (.bad a e) :=
  rd_eq (ev_bad (K := fun f ys r' => pF num f (.args (xs ++ ys)) d r') h) fun f => by
    conv => lhs; unfold pF
    simp only
    rw [if_pos ht]
/-- NAME = EXPR ; -/
def SetK (num : Bs → Nat × Nat) (f k a d : Nat) (l : List Tk) : OO := nameK l fun s r1 => must [61] r1 fun r2 => pF num f (.fin k a s []) d r2
theorem r_fin {k a d : Nat} {s : Bs} {ps : List Bs} {l r : List Tk} {t : Tk} {xs : List Tr} (h : Rd num (.lev 0) d l (.ok xs (t :: r))) (ht : isS [59] t = true) : Rd num (.fin k a s ps) d l (.ok [.mk k a s 0 ps xs] r) :=
  rd_eq (ev_bnd (K := fun _ xs r => must [59] r fun r' => some (.ok [.mk k a s 0 ps xs] r')) h (ev_eq (ev_now _) fun _ => must_y ht _)) fun f => by conv => lhs; unfold pF
theorem r_fin_end {k a d : Nat} {s : Bs} {ps : List Bs} {l r : List Tk} {t : Tk} {xs : List Tr} (h : Rd num (.lev 0) d l (.ok xs (t :: r))) (ht : isS [59] t = false) : Rd num (.fin k a s ps) d l (.bad t.at_ 100) :=
  rd_eq (ev_bnd (K := fun _ xs r => must [59] r fun r' => some (.ok [.mk k a s 0 ps xs] r')) h (ev_eq (ev_now _) fun _ => must_n ht _)) fun f => by conv => lhs; unfold pF
theorem r_fin_bad {k a d p e : Nat} {s : Bs} {ps : List Bs} {l : List Tk} (h : Rd num (.lev 0) d l (.bad p e)) : Rd num (.fin k a s ps) d l (.bad p e) :=
  rd_eq (ev_bad (K := fun _ xs r => must [59] r fun r' => some (.ok [.mk k a s 0 ps xs] r')) h) fun f => by conv => lhs; unfold pF
theorem in_ (f d : Nat) (t : Tk) (r : List Tk) : pF num (f + 1) .inner d (t :: r) = if 60 < d then wrong (t :: r) 150
      else if isS [102, 111, 114] t = true then nameK r fun s r1 => must [105, 110] r1 fun r2 => bnd (pF num f (.lev 0) d r2) fun xs r3 => must [46, 46] r3 fun r4 => bnd (pF num f (.lev 0) d r4) fun ys r5 => must [123] r5 fun r6 =>
        bnd (pF num f (.inners (xs ++ ys)) d r6) fun zs r7 => some (.ok [.mk 11 t.at_ s 0 [] zs] r7)
      else SetK num f 10 t.at_ d (t :: r) := rfl
theorem r_deepI {d : Nat} {t : Tk} {r : List Tk} (hd : 60 < d) : Rd num .inner d (t :: r) (.bad t.at_ 150) := rd_eq (ev_now _) fun f => by rw [in_, if_pos hd]; rfl
theorem r_let {d : Nat} {t : Tk} {r : List Tk} {o : Out} (hd : d ≤ 60) (ht : isS [102, 111, 114] t = false) (h : Ev (fun f => SetK num f 10 t.at_ d (t :: r)) o) : Rd num .inner d (t :: r) o :=
  rd_eq h fun f => by rw [in_, if_neg (by omega), if_neg (by rw [ht]; decide)]
/-- A for, behind its first word. -/
def ForK (num : Bs → Nat × Nat) (f a d : Nat) (r : List Tk) : OO := nameK r fun s r1 => must [105, 110] r1 fun r2 => bnd (pF num f (.lev 0) d r2) fun xs r3 => must [46, 46] r3 fun r4 => bnd (pF num f (.lev 0) d r4) fun ys r5 => must [123] r5 fun r6 =>
        bnd (pF num f (.inners (xs ++ ys)) d r6) fun zs r7 => some (.ok [.mk 11 a s 0 [] zs] r7)
theorem r_for {d : Nat} {t : Tk} {r : List Tk} {o : Out} (hd : d ≤ 60) (ht : isS [102, 111, 114] t = true) (h : Ev (fun f => ForK num f t.at_ d r) o) : Rd num .inner d (t :: r) o :=
  rd_eq h fun f => by rw [in_, if_neg (by omega), if_pos ht]; rfl
theorem r_inners_end {d : Nat} {t : Tk} {r : List Tk} {zs : List Tr} (ht : isS [125] t = true) : Rd num (.inners zs) d (t :: r) (.ok zs r) :=
  rd_eq (ev_now _) fun f => by
    conv => lhs; unfold pF
    simp only
    rw [if_pos ht]
theorem r_inners {d : Nat} {t : Tk} {r r' : List Tk} {zs xs : List Tr} {o : Out} (ht : isS [125] t = false) (h : Rd num .inner (d + 1) (t :: r) (.ok xs r')) (h2 : Rd num (.inners (zs ++ xs)) d r' o) : Rd num (.inners zs) d (t :: r) o :=
  rd_eq (ev_bnd (K := fun f xs r' => pF num f (.inners (zs ++ xs)) d r') h h2) fun f => by
    conv => lhs; unfold pF
    simp only
    rw [if_neg (by rw [ht]; decide)]
theorem r_inners_bad {d a e : Nat} {t : Tk} {r : List Tk} {zs : List Tr} (ht : isS [125] t = false) (h : Rd num .inner (d + 1) (t :: r) (.bad a e)) : Rd num (.inners zs) d (t :: r) (.bad a e) :=
  rd_eq (ev_bad (K := fun f xs r' => pF num f (.inners (zs ++ xs)) d r') h) fun f => by
    conv => lhs; unfold pF
    simp only
    rw [if_neg (by rw [ht]; decide)]
/-- NAMES ; -/
def InK (k a : Nat) (r : List Tk) : OO := namesK [] r fun ps r1 => must [59] r1 fun r2 => some (.ok [.mk k a [] 0 ps []] r2)
/-- A fn, behind its first word. -/
def FnK (num : Bs → Nat × Nat) (f a d : Nat) (r : List Tk) : OO := nameK r fun s r1 => must [40] r1 fun r2 => namesK [] r2 fun ps r3 => must [41] r3 fun r4 => must [61] r4 fun r5 => pF num f (.fin 12 a s ps) d r5
theorem st_ (f d : Nat) (t : Tk) (r : List Tk) : pF num (f + 1) .stmt d (t :: r) = if isS [115, 101, 99, 114, 101, 116] t = true then InK 6 t.at_ r
      else if isS [112, 117, 98, 108, 105, 99] t = true then InK 7 t.at_ r
      else if isS [111, 117, 116] t = true then SetK num f 8 t.at_ d r
      else if isS [115, 104, 111, 119] t = true then SetK num f 9 t.at_ d r
      else if isS [102, 110] t = true then FnK num f t.at_ d r
      else pF num f .inner 0 (t :: r) := rfl
theorem r_stmts_end {d : Nat} {t : Tk} {r : List Tk} {xs : List Tr} (ht : t.k = 0) : Rd num (.stmts xs) d (t :: r) (.ok xs (t :: r)) :=
  rd_eq (ev_now _) fun f => by
    conv => lhs; unfold pF
    simp only
    rw [if_pos ht]
theorem r_stmts {d : Nat} {t : Tk} {r r' : List Tk} {xs ys : List Tr} {o : Out} (ht : t.k ≠ 0) (h : Rd num .stmt 0 (t :: r) (.ok ys r')) (h2 : Rd num (.stmts (xs ++ ys)) d r' o) : Rd num (.stmts xs) d (t :: r) o :=
  rd_eq (ev_bnd (K := fun f ys r' => pF num f (.stmts (xs ++ ys)) d r') h h2) fun f => by
    conv => lhs; unfold pF
    simp only
    rw [if_neg ht]
theorem r_stmts_bad {d a e : Nat} {t : Tk} {r : List Tk} {xs : List Tr} (ht : t.k ≠ 0) (h : Rd num .stmt 0 (t :: r) (.bad a e)) : Rd num (.stmts xs) d (t :: r) (.bad a e) :=
  rd_eq (ev_bad (K := fun f ys r' => pF num f (.stmts (xs ++ ys)) d r') h) fun f => by
    conv => lhs; unfold pF
    simp only
    rw [if_neg ht]
end Go.Proofs.YtpoepignpdfleaaGreatDoor.Pa
