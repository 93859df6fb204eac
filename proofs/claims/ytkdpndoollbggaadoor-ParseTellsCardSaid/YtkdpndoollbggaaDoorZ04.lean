/- DERIVED. PaAp, PaTop in one text. By an AI agent. -/
import Derived.Test.YtkdpndoollbggaaDoorZ03
/- DERIVED. What is read does not hang on what stands behind it. Of no program. By an AI agent. -/
namespace Go.Proofs.YtkdpndoollbggaaDoor.Pa
open Lx
/-- Well read ahead of e, it is read so ahead of l2; S: e was not looked at. -/
def Lo (S : Prop) (e : Tk) (l2 : List Tk) (o o' : OO) : Prop := ∀ ys v, o = some (.ok ys (v ++ [e])) → (S → v ≠ []) → o' = some (.ok ys (v ++ l2))
section
variable {e : Tk} {l2 : List Tk}
theorem et_suf {r u : List Tk} (h : Et r) (hs : r <:+ u ++ [e]) : ∃ v, r = v ++ [e] ∧ ∀ t ∈ v, t.k ≠ 0 := by
  obtain ⟨v, e2, rfl, _, hv⟩ := h
  obtain ⟨w, hw⟩ := hs
  have h1 : (w ++ v) ++ [e2] = u ++ [e] := by rw [← hw, List.append_assoc]
  have h2 := List.append_inj_right' h1 rfl
  cases h2
  exact ⟨v, rfl, hv⟩
theorem lo_none {S : Prop} {o o' : OO} (h : ∀ ys v, o = some (.ok ys (v ++ [e])) → (S → v ≠ []) → False) : Lo S e l2 o o' := fun ys v h1 h2 => (h ys v h1 h2).elim
theorem lo_wrong {S : Prop} {l : List Tk} {n : Nat} {o' : OO} : Lo S e l2 (wrong l n) o' := lo_none fun ys v h _ => by cases h
theorem lo_ok {S : Prop} (xs : List Tr) (v : List Tk) : Lo S e l2 (some (.ok xs (v ++ [e]))) (some (.ok xs (v ++ l2))) := fun ys v' h _ => by
  simp only [Option.some.injEq, Out.ok.injEq] at h
  obtain ⟨rfl, h2⟩ := h
  rw [List.append_cancel_right h2]
theorem lo_if {S : Prop} {c : Prop} [Decidable c] {o o' p p' : OO} (h1 : c → Lo S e l2 o o') (h2 : ¬ c → Lo S e l2 p p') : Lo S e l2 (if c then o else p) (if c then o' else p') := by
  by_cases h : c
  · rw [if_pos h, if_pos h]; exact h1 h
  · rw [if_neg h, if_neg h]; exact h2 h
theorem lo_bnd {S S' : Prop} {u : List Tk} {o o' : OO} {f f' : List Tr → List Tk → OO} (h : Lo S' e l2 o o') (hg : Gd (u ++ [e]) o)
    (hz : ∀ xs ys v, f xs [e] = some (.ok ys (v ++ [e])) → (S → v ≠ []) → False) (hf : ∀ xs v, (∀ t ∈ v, t.k ≠ 0) → v ≠ [] → Lo S e l2 (f xs (v ++ [e])) (f' xs (v ++ l2))) : Lo S e l2 (bnd o f) (bnd o' f') := by
  rcases o with _ | ⟨xs, r⟩ | ⟨a, n⟩
  · exact lo_none fun ys v h _ => by cases h
  · obtain ⟨v, rfl, hv⟩ := et_suf hg.1 hg.2
    by_cases hn : v = []
    · subst hn; exact lo_none fun ys v' h1 h2 => hz xs ys v' h1 h2
    · rw [h xs v rfl fun _ => hn]; exact hf xs v hv hn
  · exact lo_none fun ys v h _ => by cases h
theorem lo_bndT {S : Prop} {u : List Tk} {o o' : OO} {f f' : List Tr → List Tk → OO} (h : Lo False e l2 o o') (hg : Gd (u ++ [e]) o)
    (hf : ∀ xs v, (∀ t ∈ v, t.k ≠ 0) → Lo S e l2 (f xs (v ++ [e])) (f' xs (v ++ l2))) : Lo S e l2 (bnd o f) (bnd o' f') := by
  rcases o with _ | ⟨xs, r⟩ | ⟨a, n⟩
  · exact lo_none fun ys v h _ => by cases h
  · obtain ⟨v, rfl, hv⟩ := et_suf hg.1 hg.2
    rw [h xs v rfl False.elim]; exact hf xs v hv
  · exact lo_none fun ys v h _ => by cases h
theorem ok_z {xs ys : List Tr} {v : List Tk} (h : some (Out.ok xs [e]) = some (.ok ys (v ++ [e]))) (hv : True → v ≠ []) : False := by
  simp only [Option.some.injEq, Out.ok.injEq] at h
  have := congrArg List.length h.2
  simp at this
  exact hv trivial this
theorem e_no (he : e.k = 0) (b : Bs) : isS b e = false := by unfold isS; rw [he]; rfl
theorem lo_must {S : Prop} (he : e.k = 0) {b : Bs} {u : List Tk} {f f' : List Tk → OO} (hu : ∀ t ∈ u, t.k ≠ 0) (hf : ∀ v, (∀ t ∈ v, t.k ≠ 0) → Lo S e l2 (f (v ++ [e])) (f' (v ++ l2))) : Lo S e l2 (must b (u ++ [e]) f) (must b (u ++ l2) f') := by
  cases u with
  | nil =>
    refine lo_none fun ys v h _ => ?_
    have : must b [e] f = wrong [e] 100 := by unfold must; simp only; rw [if_neg (by rw [e_no he]; decide)]
    rw [List.nil_append, this] at h; cases h
  | cons t u => exact lo_if (fun _ => hf u fun x hx => hu x (List.mem_cons_of_mem _ hx)) fun _ => lo_wrong
theorem lo_name {S : Prop} (he : e.k = 0) {u : List Tk} {f f' : Bs → List Tk → OO} (hu : ∀ t ∈ u, t.k ≠ 0) (hf : ∀ s v, (∀ t ∈ v, t.k ≠ 0) → Lo S e l2 (f s (v ++ [e])) (f' s (v ++ l2))) : Lo S e l2 (nameK (u ++ [e]) f) (nameK (u ++ l2) f') := by
  cases u with
  | nil =>
    refine lo_none fun ys v h _ => ?_
    have : nameK [e] f = wrong [e] 100 := by unfold nameK; simp only; rw [if_neg (by omega)]
    rw [List.nil_append, this] at h; cases h
  | cons t u => exact lo_if (fun _ => hf t.s u fun x hx => hu x (List.mem_cons_of_mem _ hx)) fun _ => lo_wrong
theorem must_e (he : e.k = 0) (b : Bs) (f : List Tk → OO) : must b [e] f = wrong [e] 100 := by unfold must; simp only; rw [if_neg (by rw [e_no he]; decide)]
theorem must_z (he : e.k = 0) {S : Prop} {b : Bs} {f : List Tk → OO} (ys : List Tr) (v : List Tk) (h : must b [e] f = some (.ok ys (v ++ [e]))) (_ : S → v ≠ []) : False := by
  rw [must_e he] at h; cases h
theorem lo_names {S : Prop} (he : e.k = 0) {f f' : List Bs → List Tk → OO} (hz : ∀ ps ys v, f ps [e] = some (.ok ys (v ++ [e])) → (S → v ≠ []) → False) (hf : ∀ ps v, (∀ t ∈ v, t.k ≠ 0) → v ≠ [] → Lo S e l2 (f ps (v ++ [e])) (f' ps (v ++ l2))) :
    ∀ (ps : List Bs) (u : List Tk), (∀ t ∈ u, t.k ≠ 0) → Lo S e l2 (namesK ps (u ++ [e]) f) (namesK ps (u ++ l2) f')
  | ps, [], _ => by
    refine lo_none fun ys v h _ => ?_
    have : namesK ps [e] f = wrong [e] 100 := by unfold namesK; rw [if_neg (by omega)]
    rw [List.nil_append, this] at h; cases h
  | ps, [t], _ => by
    refine lo_none fun ys v h h2 => ?_
    have : namesK ps [t, e] f = if t.k = 1 then f (ps ++ [t.s]) [e] else wrong [t, e] 100 := by
      unfold namesK
      rw [if_neg (c := isS [44] e = true) (by rw [e_no he]; decide)]
    rw [show [t] ++ [e] = [t, e] from rfl, this] at h
    by_cases hk : t.k = 1
    · rw [if_pos hk] at h; exact hz _ _ _ h h2
    · rw [if_neg hk] at h; cases h
  | ps, t :: x :: u, hu => by
    have hu1 : ∀ y ∈ x :: u, y.k ≠ 0 := fun y hy => hu y (List.mem_cons_of_mem _ hy)
    show Lo S e l2 (namesK ps (t :: x :: (u ++ [e])) f) (namesK ps (t :: x :: (u ++ l2)) f')
    unfold namesK
    exact lo_if (fun _ => lo_if (fun _ => lo_names he hz hf _ u fun y hy => hu1 y (List.mem_cons_of_mem _ hy)) fun _ => hf _ (x :: u) hu1 (List.cons_ne_nil _ _)) fun _ => lo_wrong
end
/-- Does it look at what stands behind it? -/
def NT.looks : NT → Prop
  | .lev _ => True
  | .more _ _ => True
  | .args _ => True
  | _ => False
def NT.isStmts : NT → Prop
  | .stmts _ => True
  | _ => False
theorem et_of {u : List Tk} {e : Tk} (he : e.k = 0) (hu : ∀ t ∈ u, t.k ≠ 0) : Et (u ++ [e]) := ⟨u, e, rfl, he, hu⟩
theorem ne_tail {t : Tk} {u : List Tk} (h : ∀ x ∈ t :: u, x.k ≠ 0) : ∀ x ∈ u, x.k ≠ 0 := fun x hx => h x (List.mem_cons_of_mem _ hx)
set_option maxHeartbeats 1000000 in
theorem pF_app (num : Bs → Nat × Nat) {e : Tk} (he : e.k = 0) (l2 : List Tk) : ∀ (f : Nat) (nt : NT) (d : Nat) (u : List Tk), ¬ nt.isStmts → (∀ t ∈ u, t.k ≠ 0) → Lo nt.looks e l2 (pF num f nt d (u ++ [e])) (pF num f nt d (u ++ l2)) := by
  intro f
  induction f with
  | zero => intro nt d u _ _; exact lo_none fun ys v h _ => by cases h
  | succ f ih =>
    intro nt d u hn hu
    have gd := fun nt d v (hv : ∀ t ∈ v, t.k ≠ 0) => pF_good num f nt d (v ++ [e]) (et_of he hv)
    have ihe := fun n d v hv => ih (.lev n) d v (by exact fun h => h) hv
    -- nothing begins at the end
    have lev_e : ∀ g n d ys r, pF num g (.lev n) d [e] ≠ some (.ok ys r) := by
      intro g
      induction g with
      | zero => intro n d ys r h; cases h
      | succ g ihg =>
        intro n d ys r h
        unfold pF at h
        by_cases h5 : n < 5
        · rw [if_pos h5] at h
          rcases hx : pF num g (.lev (n + 1)) d [e] with _ | ⟨xs, r'⟩ | ⟨a, b⟩
          · rw [hx] at h; cases h
          · exact ihg _ _ _ _ hx
          · rw [hx] at h; cases h
        · rw [if_neg h5] at h
          simp only at h
          rw [e_no he, e_no he, e_no he] at h
          unfold nameK at h
          simp only [Bool.or_self, Bool.false_eq_true, if_false, he] at h
          split at h
          · cases h
          · simp at h; cases h
    have inner_e : ∀ g d ys r, pF num g .inner d [e] ≠ some (.ok ys r) := by
      intro g d ys r h
      cases g with
      | zero => cases h
      | succ g =>
        unfold pF at h
        simp only at h
        rw [e_no he] at h
        unfold nameK at h
        simp only [Bool.false_eq_true, if_false, he] at h
        split at h
        · cases h
        · simp at h; cases h
    have inners_e : ∀ g zs d ys r, pF num g (.inners zs) d [e] ≠ some (.ok ys r) := by
      intro g zs d ys r h
      cases g with
      | zero => cases h
      | succ g =>
        unfold pF at h
        simp only at h
        rw [e_no he, if_neg (by decide)] at h
        rcases hx : pF num g .inner (d + 1) [e] with _ | ⟨xs, r'⟩ | ⟨a, b⟩
        · rw [hx] at h; cases h
        · exact inner_e _ _ _ _ hx
        · rw [hx] at h; cases h
    have more_e : ∀ g n x d ys v, pF num g (.more n x) d [e] = some (.ok ys (v ++ [e])) → (True → v ≠ []) → False := by
      intro g n x d ys v h hv
      cases g with
      | zero => cases h
      | succ g =>
        unfold pF at h
        simp only at h
        rw [if_neg (by unfold onS; rw [he]; simp)] at h
        simp only [Option.some.injEq, Out.ok.injEq] at h
        have := congrArg List.length h.2
        simp at this
        exact hv trivial this
    have args_e : ∀ g xs d ys v, pF num g (.args xs) d [e] = some (.ok ys (v ++ [e])) → (True → v ≠ []) → False := by
      intro g xs d ys v h hv
      cases g with
      | zero => cases h
      | succ g =>
        unfold pF at h
        simp only at h
        rw [e_no he, if_neg (by decide)] at h
        simp only [Option.some.injEq, Out.ok.injEq] at h
        have := congrArg List.length h.2
        simp at this
        exact hv trivial this
    have args_b : ∀ g xs d (F : List Tr → List Tk → OO) ys v, (bnd (pF num g (.args xs) d [e]) fun ys r3 => must [41] r3 (F ys)) = some (.ok ys (v ++ [e])) → False := by
      intro g xs d F ys v h
      cases g with
      | zero => cases h
      | succ g =>
        unfold pF at h
        simp only at h
        rw [e_no he, if_neg (by decide)] at h
        simp only [bnd] at h
        rw [must_e he] at h
        cases h
    cases nt with
    | lev n =>
      cases u with
      | nil => exact lo_none fun ys v h _ => lev_e _ _ _ _ _ h
      | cons t u =>
        show Lo True e l2 (pF num (f + 1) (.lev n) d (t :: (u ++ [e]))) (pF num (f + 1) (.lev n) d (t :: (u ++ l2)))
        unfold pF
        refine lo_if (fun _ => lo_bnd (ihe _ _ (t :: u) hu) (gd _ _ (t :: u) hu) (fun xs ys v h hv => more_e _ _ _ _ ys v h hv) fun xs v hv _ => ih (.more n (hd xs)) _ _ (fun h => h) hv) fun _ => ?_
        simp only
        refine lo_if (fun _ => lo_wrong) fun _ => lo_if (fun hs => ?_) fun _ => lo_if (fun hk => ?_) fun _ => lo_if (fun hs => ?_) fun _ => lo_name he (u := t :: u) hu fun s v hv => ?_
        · exact lo_bnd (ihe _ _ _ (ne_tail hu)) (gd _ _ _ (ne_tail hu)) (fun xs ys v h hv => ok_z h hv) fun xs v hv _ => lo_ok _ v
        · exact lo_if (fun _ => lo_ok _ u) fun _ => lo_wrong
        · exact lo_bnd (ihe _ _ _ (ne_tail hu)) (gd _ _ _ (ne_tail hu)) (fun xs ys v h hv => must_z he ys v h hv) fun xs v hv _ => lo_must he hv fun v hv => lo_ok _ v
        · cases v with
          | nil =>
            refine lo_none fun ys v h hv => ?_
            simp only [List.nil_append] at h
            rw [e_no he, if_neg (by decide)] at h
            exact ok_z h hv
          | cons w v =>
            exact lo_if (fun hw => lo_bnd (ihe _ _ _ (ne_tail hv)) (gd _ _ _ (ne_tail hv)) (fun xs ys v h hv => args_b _ _ _ _ ys v h)
              fun xs v hv _ => lo_bnd (ih (.args xs) _ _ (fun h => h) hv) (gd _ _ _ hv) (fun xs ys v h hv => must_z he ys v h hv) fun ys v hv _ => lo_must he hv fun v hv => lo_ok _ v) fun _ => lo_ok _ (w :: v)
    | more n x =>
      cases u with
      | nil => exact lo_none fun ys v h hv => more_e _ _ _ _ _ _ h hv
      | cons t u =>
        show Lo True e l2 (pF num (f + 1) (.more n x) d (t :: (u ++ [e]))) (pF num (f + 1) (.more n x) d (t :: (u ++ l2)))
        unfold pF
        exact lo_if (fun hs => lo_bnd (ihe _ _ _ (ne_tail hu)) (gd _ _ _ (ne_tail hu)) (fun xs ys v h hv => more_e _ _ _ _ ys v h hv) fun ys v hv _ => ih (.more n _) _ _ (fun h => h) hv) fun _ => lo_ok _ (t :: u)
    | args xs =>
      cases u with
      | nil => exact lo_none fun ys v h hv => args_e _ _ _ _ _ h hv
      | cons t u =>
        show Lo True e l2 (pF num (f + 1) (.args xs) d (t :: (u ++ [e]))) (pF num (f + 1) (.args xs) d (t :: (u ++ l2)))
        unfold pF
        exact lo_if (fun hs => lo_bnd (ihe _ _ _ (ne_tail hu)) (gd _ _ _ (ne_tail hu)) (fun xs ys v h hv => args_e _ _ _ ys v h hv) fun ys v hv _ => ih (.args _) _ _ (fun h => h) hv) fun _ => lo_ok _ (t :: u)
    | fin k a s ps =>
      show Lo False e l2 (pF num (f + 1) (.fin k a s ps) d (u ++ [e])) (pF num (f + 1) (.fin k a s ps) d (u ++ l2))
      unfold pF
      exact lo_bnd (ihe _ _ _ hu) (gd _ _ _ hu) (fun xs ys v h hv => must_z he ys v h hv) fun xs v hv _ => lo_must he hv fun v hv => lo_ok _ v
    | inner =>
      cases u with
      | nil => exact lo_none fun ys v h _ => inner_e _ _ _ _ h
      | cons t u =>
        show Lo False e l2 (pF num (f + 1) .inner d (t :: (u ++ [e]))) (pF num (f + 1) .inner d (t :: (u ++ l2)))
        unfold pF
        refine lo_if (fun _ => lo_wrong) fun _ => lo_if (fun hs => lo_name he (ne_tail hu) fun s v hv => lo_must he hv fun v hv => lo_bnd (ihe _ _ _ hv) (gd _ _ _ hv) (fun xs ys v h hv => must_z he ys v h hv) fun xs v hv _ => lo_must he hv fun v hv =>
          lo_bnd (ihe _ _ _ hv) (gd _ _ _ hv) (fun xs ys v h hv => must_z he ys v h hv) fun ys v hv _ => lo_must he hv fun v hv => lo_bndT (ih (.inners _) _ _ (fun h => h) hv) (gd _ _ _ hv) fun zs v hv => lo_ok _ v)
          fun _ => lo_name he (u := t :: u) hu fun s v hv => lo_must he hv fun v hv => ih (.fin _ _ _ _) _ _ (fun h => h) hv
    | inners zs =>
      cases u with
      | nil => exact lo_none fun ys v h _ => inners_e _ _ _ _ _ h
      | cons t u =>
        show Lo False e l2 (pF num (f + 1) (.inners zs) d (t :: (u ++ [e]))) (pF num (f + 1) (.inners zs) d (t :: (u ++ l2)))
        unfold pF
        exact lo_if (fun _ => lo_ok _ u) fun _ => lo_bndT (ih .inner _ (t :: u) (fun h => h) hu) (gd _ _ (t :: u) hu) fun xs v hv => ih (.inners _) _ _ (fun h => h) hv
    | stmt =>
      cases u with
      | nil =>
        refine lo_none fun ys v h _ => ?_
        rw [List.nil_append] at h
        unfold pF at h
        simp only at h
        rw [e_no he, e_no he, e_no he, e_no he, e_no he] at h
        exact inner_e _ _ _ _ h
      | cons t u =>
        show Lo False e l2 (pF num (f + 1) .stmt d (t :: (u ++ [e]))) (pF num (f + 1) .stmt d (t :: (u ++ l2)))
        unfold pF
        refine lo_if (fun hs => ?_) fun _ => lo_if (fun hs => ?_) fun _ => lo_if (fun hs => ?_) fun _ => lo_if (fun hs => ?_) fun _ => lo_if (fun hs => ?_) fun _ => ih .inner _ (t :: u) (fun h => h) hu
        · exact lo_names he (fun ps ys v h hv => must_z he ys v h hv) (fun ps v hv _ => lo_must he hv fun v hv => lo_ok _ v) _ _ (ne_tail hu)
        · exact lo_names he (fun ps ys v h hv => must_z he ys v h hv) (fun ps v hv _ => lo_must he hv fun v hv => lo_ok _ v) _ _ (ne_tail hu)
        · exact lo_name he (ne_tail hu) fun s v hv => lo_must he hv fun v hv => ih (.fin _ _ _ _) _ _ (fun h => h) hv
        · exact lo_name he (ne_tail hu) fun s v hv => lo_must he hv fun v hv => ih (.fin _ _ _ _) _ _ (fun h => h) hv
        · exact lo_name he (ne_tail hu) fun s v hv => lo_must he hv fun v hv => lo_names he (fun ps ys v h hv => must_z he ys v h hv) (fun ps v hv _ => lo_must he hv fun v hv => lo_must he hv fun v hv => ih (.fin _ _ _ _) _ _ (fun h => h) hv) _ _ hv
    | stmts xs => exact (hn trivial).elim
end Go.Proofs.YtkdpndoollbggaaDoor.Pa
/- DERIVED. Two programs one behind the other are one. Of no program. By an AI agent. -/
namespace Go.Proofs.YtkdpndoollbggaaDoor.Pa
open Lx
/-- An outcome with trees ahead of its own. -/
def pre (a : List Tr) : Out → Out
  | .ok l r => .ok (a ++ l) r
  | .bad p e => .bad p e
theorem stmts_acc (num : Bs → Nat × Nat) (a : List Tr) : ∀ (f : Nat) (xs : List Tr) (d : Nat) (l : List Tk), pF num f (.stmts (a ++ xs)) d l = (pF num f (.stmts xs) d l).map (pre a) := by
  intro f
  induction f with
  | zero => intros; rfl
  | succ f ih =>
    intro xs d l
    unfold pF
    cases l with
    | nil => rfl
    | cons t r =>
      simp only
      by_cases h : t.k = 0
      · rw [if_pos h, if_pos h]; rfl
      · rw [if_neg h, if_neg h]
        rcases pF num f .stmt 0 (t :: r) with _ | ⟨ys, r'⟩ | ⟨p, e⟩
        · rfl
        · show pF num f (.stmts (a ++ xs ++ ys)) d r' = (pF num f (.stmts (xs ++ ys)) d r').map (pre a)
          rw [List.append_assoc]; exact ih _ _ _
        · rfl
theorem stmts_app (num : Bs → Nat × Nat) {e : Tk} (he : e.k = 0) (l2 : List Tk) : ∀ (f : Nat) (xs ys : List Tr) (u r : List Tk) (d : Nat), (∀ t ∈ u, t.k ≠ 0) → pF num f (.stmts xs) d (u ++ [e]) = some (.ok ys r) →
    ∀ (g : Nat) (o : Out), pF num g (.stmts ys) d l2 = some o → ∃ h, pF num h (.stmts xs) d (u ++ l2) = some o := by
  intro f
  induction f with
  | zero => intro xs ys u r d _ h; cases h
  | succ f ih =>
    intro xs ys u r d hu h g o hg
    cases u with
    | nil =>
      rw [List.nil_append] at h
      unfold pF at h
      simp only at h
      rw [if_pos he] at h
      simp only [Option.some.injEq, Out.ok.injEq] at h
      obtain ⟨rfl, _⟩ := h
      exact ⟨g, hg⟩
    | cons t u =>
      have ht : t.k ≠ 0 := hu t (List.mem_cons_self ..)
      have hs := pF_app num he l2 f .stmt 0 (t :: u) (fun h => h) hu
      have gd := pF_good num f .stmt 0 ((t :: u) ++ [e]) (et_of he hu)
      rw [List.cons_append] at h
      unfold pF at h
      simp only at h
      rw [if_neg ht] at h
      rw [List.cons_append] at hs gd
      rcases hx : pF num f .stmt 0 (t :: (u ++ [e])) with _ | ⟨zs, r'⟩ | ⟨p, n⟩
      · rw [hx] at h; cases h
      · rw [hx] at h gd
        obtain ⟨v, rfl, hv⟩ := et_suf (u := t :: u) gd.1 gd.2
        have h2 := hs zs v hx False.elim
        obtain ⟨k, hk⟩ := ih (xs ++ zs) ys v r d hv h g o hg
        refine ⟨max f k + 1, ?_⟩
        have a1 := pF_mono num f (max f k) (Nat.le_max_left _ _) _ _ _ _ h2
        have a2 := pF_mono num k (max f k) (Nat.le_max_right _ _) _ _ _ _ hk
        rw [List.cons_append] at a1 ⊢
        unfold pF
        simp only
        rw [if_neg ht, a1]
        exact a2
      · rw [hx] at h; cases h
/-- Two programs, one behind the other: both's statements. -/
theorem two_programs {num : Bs → Nat × Nat} {u l2 r r2 : List Tk} {e : Tk} (he : e.k = 0) (hu : ∀ t ∈ u, t.k ≠ 0) {f g h : Nat} {ys zs : List Tr} {o : Out}
    (h1 : pF num f (.stmts []) 0 (u ++ [e]) = some (.ok ys r)) (h2 : pF num g (.stmts []) 0 l2 = some (.ok zs r2)) (h3 : pF num h (.stmts []) 0 (u ++ l2) = some o) : o = .ok (ys ++ zs) r2 := by
  have ha := stmts_acc num ys g [] 0 l2
  rw [h2, List.append_nil] at ha
  obtain ⟨k, hk⟩ := stmts_app num he l2 f [] ys u r 0 hu h1 g _ ha
  exact pF_one h3 hk
/-- The same tokens but for places: the same trees but for places. -/
theorem same_programs {num : Bs → Nat × Nat} {l l' r : List Tk} (hl : Sl l l') {f g : Nat} {ys : List Tr} {o : Out} (h1 : pF num f (.stmts []) 0 l = some (.ok ys r)) (h2 : pF num g (.stmts []) 0 l' = some o) :
    ∃ ys' r', o = .ok ys' r' ∧ skL ys = skL ys' ∧ Sl r r' := by
  have a1 := pF_mono num f (max f g) (Nat.le_max_left _ _) _ _ _ _ h1
  have a2 := pF_mono num g (max f g) (Nat.le_max_right _ _) _ _ _ _ h2
  have h := pF_sk num (max f g) (.stmts []) (.stmts []) 0 l l' rfl hl
  unfold Eo at h
  rw [a1, a2] at h
  cases o with
  | ok ys' r' =>
    simp only [Option.map_some, Out.sk, Option.some.injEq, Out.ok.injEq] at h
    exact ⟨ys', r', rfl, h.1, h.2⟩
  | bad p n => simp only [Option.map_some, Out.sk, Option.some.injEq, reduceCtorEq] at h
/-- The words of a text have the end behind them, and there alone. -/
theorem words_et {s : Bs} (h : (wordsL s).er = 0) : Et (wordsL s).l := by
  obtain ⟨hne, ho⟩ := words_order s h
  refine ⟨(wordsL s).l.dropLast, (wordsL s).l.getLast hne, (List.dropLast_concat_getLast hne).symm, ?_, fun t ht => ?_⟩
  · have hl := List.length_pos_iff.2 hne
    have hx : (wordsL s).l[(wordsL s).l.length - 1]? = some ((wordsL s).l.getLast hne) := by
      rw [List.getLast_eq_getElem, List.getElem?_eq_getElem (by omega)]
    exact ((ho _ _ hx).2.2.1).2 (by omega)
  · obtain ⟨j, hj, hjt⟩ := List.getElem_of_mem ht
    rw [List.length_dropLast] at hj
    rw [List.getElem_dropLast] at hjt
    have hx : (wordsL s).l[j]? = some t := by rw [List.getElem?_eq_getElem (by omega), hjt]
    intro hk
    have := ((ho j t hx).2.2.1).1 hk
    omega
/-- What is wrong is told at a place in the text. -/
theorem tells {num : Bs → Nat × Nat} {s : Bs} (h : (wordsL s).er = 0) {f d a e : Nat} {nt : NT} (hp : pF num f nt d (wordsL s).l = some (.bad a e)) : a ≤ s.length ∧ (e = 100 ∨ e = 150) := by
  have hg := pF_good num f nt d _ (words_et h)
  rw [hp] at hg
  obtain ⟨⟨t, ht, rfl⟩, he⟩ := hg
  obtain ⟨j, hj, hjt⟩ := List.getElem_of_mem ht
  have := ((words_order s h).2 j t (by rw [List.getElem?_eq_getElem hj, hjt])).1
  exact ⟨by omega, he⟩
theorem go_bad : ∀ (f : Nat) (bs : Bs) (i n : Nat), (goL f bs i n).er ≠ 0 → (goL f bs i n).at_ ≤ i + bs.length ∧ ((goL f bs i n).er = 100 ∨ (goL f bs i n).er = 150)
  | 0, _, _, _, h => absurd rfl h
  | f + 1, [], i, n, h => by
    have e : goL (f + 1) [] i n = if n = 4000 then ⟨[], i, 150⟩ else ⟨[⟨0, [], i⟩], 0, 0⟩ := rfl
    rw [e] at h ⊢
    by_cases hn : n = 4000
    · rw [if_pos hn]; exact ⟨Nat.le_refl _, .inr rfl⟩
    · rw [if_neg hn] at h; exact absurd rfl h
  | f + 1, c :: r, i, n, h => by
    rcases ht : tokC c r with _ | ⟨k, m⟩
    · rw [goL_none ht]; exact ⟨Nat.le_add_right _ _, .inl rfl⟩
    · have hm := tok_len ht
      rw [goL_some ht] at h ⊢
      by_cases hn : n = 4000
      · rw [if_pos hn]; exact ⟨Nat.le_add_right _ _, .inr rfl⟩
      · rw [if_neg hn] at h ⊢
        have hw : (goL f (restL ((c :: r).drop m)) (i + m + skipL false ((c :: r).drop m)) (n + 1)).er ≠ 0 := fun h0 => by
          rw [cons_is h0] at h; exact h rfl
        rw [cons_er hw]
        have ih := go_bad f _ _ (n + 1) hw
        refine ⟨?_, ih.2⟩
        have h1 := ih.1
        have h2 := skipL_le false ((c :: r).drop m)
        have hl : (restL ((c :: r).drop m)).length = ((c :: r).drop m).length - skipL false ((c :: r).drop m) := by unfold restL; rw [List.length_drop]
        have hd : ((c :: r).drop m).length = (c :: r).length - m := List.length_drop
        have := hm.2.1
        omega
theorem words_bad_at {s : Bs} (h : (wordsL s).er ≠ 0) : (wordsL s).at_ ≤ s.length ∧ ((wordsL s).er = 100 ∨ (wordsL s).er = 150) := by
  unfold wordsL at h ⊢
  by_cases hs : 20000 < s.length
  · rw [if_pos hs]; exact ⟨Nat.zero_le _, .inr rfl⟩
  · rw [if_neg hs] at h ⊢
    have hb := go_bad _ _ _ _ h
    have hk := skipL_le false s
    rw [List.length_drop] at hb
    exact ⟨by omega, hb.2⟩
end Go.Proofs.YtkdpndoollbggaaDoor.Pa
