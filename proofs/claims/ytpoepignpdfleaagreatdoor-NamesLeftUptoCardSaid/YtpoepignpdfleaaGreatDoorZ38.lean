/- DERIVED. NmBd, NmPr, NmLv in one text. By an AI agent. -/
import Derived.Test.YtpoepignpdfleaaGreatDoorZ36
import Derived.Test.YtpoepignpdfleaaGreatDoorZ04
import Derived.Test.YtpoepignpdfleaaGreatDoorZ37
import Derived.Test.YtpoepignpdfleaaGreatDoorZ15
import Derived.Test.YtpoepignpdfleaaGreatDoorZ19
/- DERIVED. How much is read of a text; there is one outcome. By an AI agent. -/
namespace Go.Proofs.YtpoepignpdfleaaGreatDoor.Nm
open Go Lx Pa Sh
set_option linter.unusedVariables false
set_option linter.unusedSimpArgs false
theorem nrun_le (base : Nat) : ∀ (l : List UInt8) (n m : Nat), n ≤ 4294967296 → Num.nrun base l n = some m → m ≤ 4294967296
  | [], n, m, h, e => by
    unfold Num.nrun at e
    cases e
    exact h
  | c :: l, n, m, h, e => by
    unfold Num.nrun at e
    split at e
    · exact nrun_le base l _ m (Nat.min_le_right ..) e
    · cases e
theorem numV_lt (b : Bs) : (numV b).1 < 4294967296 := by
  unfold numV Num.numR
  split
  · decide
  · split
    · decide
    · next h =>
      have := nrun_le _ _ _ _ (by decide) h
      split
      · decide
      · simp only; omega
def pw : List Bs → Nat
  | [] => 0
  | p :: ps => p.length + 1 + pw ps
mutual
/-- How much a tree is. -/
def wt : Tr → Nat
  | .mk _ _ s _ ps l => 1 + s.length + pw ps + wts l
def wts : List Tr → Nat
  | [] => 0
  | x :: l => wt x + wts l
end
def tw : List Tk → Nat
  | [] => 0
  | t :: l => t.s.length + 1 + tw l
theorem pw_app : ∀ (a b : List Bs), pw (a ++ b) = pw a + pw b
  | [], b => by simp [pw]
  | p :: a, b => by
    show p.length + 1 + pw (a ++ b) = p.length + 1 + pw a + pw b
    rw [pw_app a b]; omega
theorem wts_app : ∀ (a b : List Tr), wts (a ++ b) = wts a + wts b
  | [], b => by simp [wts]
  | x :: a, b => by
    show wt x + wts (a ++ b) = wt x + wts a + wts b
    rw [wts_app a b]; omega
theorem wt_put (x : Tr) (a : Nat) : wt (x.put a) = wt x := by cases x; rfl
theorem wts_put (a : Nat) : ∀ l : List Tr, wts (l.map (·.put a)) = wts l
  | [] => rfl
  | x :: l => by
    show wt (x.put a) + wts (l.map _) = wt x + wts l
    rw [wt_put, wts_put a l]
def baseN : NT → Nat
  | .more _ x => wt x
  | .args l => wts l
  | .fin _ _ s ps => 1 + s.length + pw ps
  | .inners l => wts l
  | .stmts l => wts l
  | _ => 0
def sglN : NT → Prop
  | .lev _ => True
  | .more _ _ => True
  | _ => False
def Ct (p : Prop) (b : Nat) : OO → Prop
  | some (.ok xs r) => wts xs + tw r ≤ b ∧ (p → ∃ x l, xs = x :: l)
  | _ => True
section
variable {p p' : Prop} {b b' : Nat}
theorem ct_wrong (l : List Tk) (e : Nat) : Ct p b (wrong l e) := trivial
theorem ct_if {c : Prop} [Decidable c] {o q : OO} (h1 : c → Ct p b o) (h2 : ¬ c → Ct p b q) : Ct p b (if c then o else q) := by
  by_cases h : c
  · rw [if_pos h]; exact h1 h
  · rw [if_neg h]; exact h2 h
theorem ct_bnd {o : OO} {f : List Tr → List Tk → OO} (h : Ct p b o) (hf : ∀ xs r, wts xs + tw r ≤ b → (p → ∃ x l, xs = x :: l) → Ct p' b' (f xs r)) : Ct p' b' (bnd o f) := by
  rcases o with _ | ⟨xs, r⟩ | ⟨a, e⟩
  · trivial
  · exact hf xs r h.1 h.2
  · trivial
theorem ct_up {o : OO} (h : Ct p b o) (hb : b ≤ b') (hp : p' → p) : Ct p' b' o := by
  rcases o with _ | ⟨xs, r⟩ | ⟨a, e⟩
  · trivial
  · exact ⟨Nat.le_trans h.1 hb, fun h' => h.2 (hp h')⟩
  · trivial
theorem ct_ok {xs : List Tr} {r : List Tk} (h : wts xs + tw r ≤ b) (hp : p → ∃ x l, xs = x :: l) : Ct p b (some (.ok xs r)) := ⟨h, hp⟩
theorem ct_must {s : Bs} {l : List Tk} {f : List Tk → OO} (hf : ∀ r, tw r + 1 ≤ tw l → Ct p b (f r)) : Ct p b (must s l f) := by
  cases l with
  | nil => trivial
  | cons t r => exact ct_if (fun _ => hf r (by show tw r + 1 ≤ t.s.length + 1 + tw r; omega)) fun _ => ct_wrong _ _
theorem ct_name {l : List Tk} {f : Bs → List Tk → OO} (hf : ∀ s r, s.length + 1 + tw r = tw l → Ct p b (f s r)) : Ct p b (nameK l f) := by
  cases l with
  | nil => trivial
  | cons t r => exact ct_if (fun hk => hf t.s r rfl) fun _ => ct_wrong _ _
theorem ct_names {f : List Bs → List Tk → OO} {c : Nat} (hf : ∀ ps r, pw ps + tw r ≤ c → Ct p b (f ps r)) : ∀ (ps : List Bs) (l : List Tk), pw ps + tw l ≤ c → Ct p b (namesK ps l f)
  | _, [], _ => trivial
  | ps, [t], h => by
    unfold namesK
    refine ct_if (fun hk => hf _ _ ?_) fun _ => ct_wrong _ _
    rw [pw_app]
    have : tw [t] = t.s.length + 1 + tw [] := rfl
    show pw ps + (t.s.length + 1 + 0) + tw [] ≤ c
    omega
  | ps, t :: u :: r, h => by
    unfold namesK
    have e : tw (t :: u :: r) = t.s.length + 1 + (u.s.length + 1 + tw r) := rfl
    have e2 : pw (ps ++ [t.s]) = pw ps + (t.s.length + 1 + 0) := pw_app _ _
    have e3 : tw (u :: r) = u.s.length + 1 + tw r := rfl
    refine ct_if (fun hk => ct_if (fun _ => ct_names hf _ r (by omega)) fun _ => hf _ _ (by omega)) fun _ => ct_wrong _ _
end
theorem wts_one (x : Tr) : wts [x] = wt x := by show wt x + 0 = _; omega
theorem tw_cons (t : Tk) (l : List Tk) : tw (t :: l) = t.s.length + 1 + tw l := rfl
theorem wts_cons (x : Tr) (l : List Tr) : wts (x :: l) = wt x + wts l := rfl
theorem wt_mk (k a : Nat) (s : Bs) (n : Nat) (ps : List Bs) (l : List Tr) : wt (.mk k a s n ps l) = 1 + s.length + pw ps + wts l := rfl
theorem pw_nil : pw [] = 0 := rfl
theorem wts_nil : wts [] = 0 := rfl
/-- No more is read than there is. -/
theorem pF_much {num : Bs → Nat × Nat} : ∀ (f : Nat) (nt : NT) (d : Nat) (l : List Tk), Ct (sglN nt) (baseN nt + tw l) (pF num f nt d l) := by
  intro f
  induction f with
  | zero => intros; trivial
  | succ f ih =>
    intro nt d l
    cases nt with
    | lev n =>
      unfold pF
      refine ct_if (fun _ => ct_bnd (ih (.lev (n + 1)) _ _) fun xs r hx hs => ?_) fun _ => ?_
      · obtain ⟨x, m, rfl⟩ := hs trivial
        refine ct_up (ih (.more n x) _ _) ?_ (fun h => h)
        simp only [baseN, wts_cons] at hx ⊢
        omega
      cases l with
      | nil => trivial
      | cons t r =>
      refine ct_if (fun _ => ct_wrong _ _) fun _ => ct_if (fun hs => ?_) fun _ => ct_if (fun hk => ?_) fun _ => ct_if (fun hs => ?_) fun _ => ct_name fun s r hs => ?_
      · refine ct_bnd (ih (.lev 5) _ _) fun xs r' hx _ => ⟨?_, fun _ => ⟨_, _, rfl⟩⟩
        simp only [baseN] at hx
        simp only [baseN, wts_one, wt_mk, tw_cons, pw_nil]
        omega
      · refine ct_if (fun _ => ⟨?_, fun _ => ⟨_, _, rfl⟩⟩) fun _ => ct_wrong _ _
        simp only [baseN, wts_one, wt_mk, tw_cons, pw_nil, wts_nil, List.length_nil]
        omega
      · refine ct_bnd (ih (.lev 0) _ _) fun xs r' hx hs => ct_must fun r2 hr2 => ⟨?_, fun _ => ?_⟩
        · rw [wts_put]
          simp only [baseN] at hx
          simp only [baseN, tw_cons]
          omega
        · obtain ⟨x, m, rfl⟩ := hs trivial
          exact ⟨_, _, rfl⟩
      · cases r with
        | nil =>
          refine ⟨?_, fun _ => ⟨_, _, rfl⟩⟩
          simp only [baseN, wts_one, wt_mk, pw_nil, wts_nil]
          omega
        | cons u r' =>
          refine ct_if (fun hu => ?_) fun _ => ⟨?_, fun _ => ⟨_, _, rfl⟩⟩
          · refine ct_bnd (ih (.lev 0) _ _) fun xs r2 hx _ => ct_bnd (ih (.args xs) _ _) fun ys r3 hy _ => ct_must fun r4 hr4 => ⟨?_, fun _ => ⟨_, _, rfl⟩⟩
            simp only [baseN] at hx hy
            simp only [tw_cons] at hs
            simp only [baseN, wts_one, wt_mk, pw_nil, tw_cons]
            omega
          · simp only [baseN, wts_one, wt_mk, pw_nil, wts_nil]
            omega
    | more n x =>
      unfold pF
      cases l with
      | nil => exact ⟨by simp only [baseN, wts_one]; omega, fun _ => ⟨_, _, rfl⟩⟩
      | cons t r =>
        refine ct_if (fun hs => ct_bnd (ih (.lev (n + 1)) _ _) fun ys r' hy _ => ?_) fun _ => ⟨by simp only [baseN, wts_one]; omega, fun _ => ⟨_, _, rfl⟩⟩
        refine ct_up (ih (.more n (.mk (if n = 3 then 4 else 3) x.place t.s 0 [] (x :: ys))) d r') ?_ (fun h => h)
        simp only [baseN] at hy
        simp only [baseN, wt_mk, wts_cons, pw_nil, tw_cons]
        omega
    | args xs =>
      unfold pF
      cases l with
      | nil => exact ⟨by simp only [baseN]; omega, fun h => h.elim⟩
      | cons t r =>
        refine ct_if (fun hs => ct_bnd (ih (.lev 0) _ _) fun ys r' hy _ => ?_) fun _ => ⟨by simp only [baseN]; omega, fun h => h.elim⟩
        refine ct_up (ih (.args (xs ++ ys)) d r') ?_ (fun h => h)
        simp only [baseN] at hy
        simp only [baseN, wts_app, tw_cons]
        omega
    | fin k a s ps =>
      unfold pF
      refine ct_bnd (ih (.lev 0) _ _) fun xs r hx _ => ct_must fun r' hr' => ⟨?_, fun h => h.elim⟩
      simp only [baseN] at hx
      simp only [baseN, wts_one, wt_mk]
      omega
    | inner =>
      unfold pF
      cases l with
      | nil => trivial
      | cons t r =>
        refine ct_if (fun _ => ct_wrong _ _) fun _ => ct_if (fun hs => ?_) fun _ => ct_name fun s r hs => ct_must fun r2 hr2 => ?_
        · refine ct_name fun s r1 hs => ct_must fun r2 h2 => ct_bnd (ih (.lev 0) _ _) fun xs r3 hx _ => ct_must fun r4 h4 => ct_bnd (ih (.lev 0) _ _) fun ys r5 hy _ => ct_must fun r6 h6 => ct_bnd (ih (.inners (xs ++ ys)) _ _) fun zs r7 hz _ => ⟨?_, fun h => h.elim⟩
          simp only [baseN, wts_app] at hx hy hz
          simp only [baseN, wts_one, wt_mk, pw_nil, tw_cons]
          omega
        · refine ct_up (ih (.fin 10 t.at_ s []) d r2) ?_ (fun h => h)
          simp only [baseN, pw_nil]
          omega
    | inners zs =>
      unfold pF
      cases l with
      | nil => trivial
      | cons t r =>
        refine ct_if (fun _ => ⟨?_, fun h => h.elim⟩) fun _ => ct_bnd (ih .inner _ _) fun xs r' hx _ => ?_
        · simp only [baseN, tw_cons]; omega
        · refine ct_up (ih (.inners (zs ++ xs)) d r') ?_ (fun h => h)
          simp only [baseN] at hx
          simp only [baseN, wts_app]
          omega
    | stmt =>
      unfold pF
      cases l with
      | nil => trivial
      | cons t r =>
        have fin : ∀ (k : Nat) (s : Bs) (ps : List Bs) (r2 : List Tk), 1 + s.length + pw ps + tw r2 ≤ tw (t :: r) → Ct (sglN .stmt) (baseN .stmt + tw (t :: r)) (pF num f (.fin k t.at_ s ps) d r2) := fun k s ps r2 h => ct_up (ih (.fin k t.at_ s ps) d r2) (by simp only [baseN]; omega) (fun h => h)
        have e0 := tw_cons t r
        refine ct_if (fun _ => ?_) fun _ => ct_if (fun _ => ?_) fun _ => ct_if (fun _ => ?_) fun _ => ct_if (fun _ => ?_) fun _ => ct_if (fun _ => ?_) fun _ => ?_
        · exact ct_names (c := tw r) (fun ps r1 h1 => ct_must fun r2 h2 => ct_ok (by simp only [baseN, wts_one, wt_mk, wts_nil, List.length_nil]; omega) fun h => h.elim) [] r (by simp only [pw_nil]; omega)
        · exact ct_names (c := tw r) (fun ps r1 h1 => ct_must fun r2 h2 => ct_ok (by simp only [baseN, wts_one, wt_mk, wts_nil, List.length_nil]; omega) fun h => h.elim) [] r (by simp only [pw_nil]; omega)
        · exact ct_name fun s r1 h1 => ct_must fun r2 h2 => fin 8 s [] r2 (by simp only [pw_nil]; omega)
        · exact ct_name fun s r1 h1 => ct_must fun r2 h2 => fin 9 s [] r2 (by simp only [pw_nil]; omega)
        · exact ct_name fun s r1 h1 => ct_must fun r2 h2 => ct_names (c := tw r2) (fun ps r3 h3 => ct_must fun r4 h4 => ct_must fun r5 h5 => fin 12 s ps r5 (by omega)) [] r2 (by simp only [pw_nil]; omega)
        · exact ct_up (ih .inner 0 (t :: r)) (by simp only [baseN]; omega) (fun h => h)
    | stmts xs =>
      unfold pF
      cases l with
      | nil => trivial
      | cons t r =>
        refine ct_if (fun _ => ⟨by simp only [baseN]; omega, fun h => h.elim⟩) fun _ => ct_bnd (ih .stmt _ _) fun ys r' hy _ => ?_
        refine ct_up (ih (.stmts (xs ++ ys)) d r') ?_ (fun h => h)
        simp only [baseN] at hy
        simp only [baseN, wts_app]
        omega
theorem tw_le (b : Nat) : ∀ (l : List Tk), (∀ t ∈ l, t.s.length ≤ b) → tw l ≤ l.length * (b + 1)
  | [], _ => by simp [tw]
  | t :: l, h => by
    have h1 := tw_le b l fun u hu => h u (by simp [hu])
    have h2 := h t (by simp)
    rw [tw_cons, List.length_cons, Nat.succ_mul]
    omega
theorem tw_words {s : Bs} (h : (wordsL s).er = 0) : tw (wordsL s).l ≤ 80004000 := by
  obtain ⟨_, h2, h3⟩ := words_gt h
  have h1 := tw_le 20000 (wordsL s).l fun t ht => (h2 t ht).2
  have : (wordsL s).l.length * 20001 ≤ 4000 * 20001 := Nat.mul_le_mul_right _ h3
  omega
theorem pw_mem : ∀ {ps : List Bs} {p : Bs}, p ∈ ps → p.length ≤ pw ps
  | q :: ps, p, h => by
    show _ ≤ q.length + 1 + pw ps
    rcases List.mem_cons.1 h with rfl | h
    · omega
    · have := pw_mem h; omega
theorem pw_len : ∀ ps : List Bs, ps.length ≤ pw ps
  | [] => Nat.le_refl _
  | p :: ps => by
    have := pw_len ps
    show ps.length + 1 ≤ p.length + 1 + pw ps
    omega
mutual
theorem lenz_wt : ∀ (x : Tr), wt x ≤ maxLen → lenz (embz x)
  | .mk k a s n ps l, h => by
    rw [wt_mk] at h
    unfold embz lenz
    exact ⟨by omega, fun p hp => by have := pw_mem hp; omega, lenzs_wt l (by omega)⟩
theorem lenzs_wt : ∀ (l : List Tr), wts l ≤ maxLen → lenzs (embs l)
  | [], _ => by unfold embs lenzs; trivial
  | x :: l, h => by
    rw [wts_cons] at h
    unfold embs lenzs
    exact ⟨lenz_wt x (by omega), lenzs_wt l (by omega)⟩
end
mutual
theorem nbz_wt : ∀ (x : Tr), nbz (embz x) ≤ wt x
  | .mk k a s n ps l => by
    rw [wt_mk]
    have := nbzs_wt l
    have := pw_len ps
    unfold embz nbz
    omega
theorem nbzs_wt : ∀ (l : List Tr), nbzs (embs l) ≤ wts l
  | [] => by unfold embs nbzs; exact Nat.zero_le _
  | x :: l => by
    rw [wts_cons]
    have := nbz_wt x
    have := nbzs_wt l
    unfold embs nbzs
    omega
end
/-- A program's tree, of a text's words. -/
theorem prog_z {s : Bs} {x : Tr} {t : Tk} {r : List Tk} (he : (wordsL s).er = 0) (h : ProgR (wordsL s).l (.ok [x] (t :: r))) : lenz (embz x) ∧ nbz (embz x) ≤ 1099511627776 ∧ okPs 0 (lz (embz x)) := by
  obtain ⟨zs, e1, h1, _⟩ := h
  simp only [List.cons.injEq, and_true] at e1
  subst e1
  obtain ⟨f, hf⟩ := h1.at_
  have hm := pF_much (num := numV) f (.stmts []) 0 (wordsL s).l
  rw [hf] at hm
  have hw := tw_words he
  have hm1 := hm.1
  have hwz : wts zs ≤ 80004000 := by
    have : baseN (.stmts []) = 0 := rfl
    omega
  refine ⟨lenz_wt _ ?_, ?_, ?_⟩
  · rw [wt_mk]; simp only [pw_nil, List.length_nil]; unfold maxLen; omega
  · have := nbz_wt (.mk 13 (hdA (wordsL s).l) [] 0 [] zs)
    rw [wt_mk] at this
    simp only [pw_nil, List.length_nil] at this
    omega
  · have hg := pF_made (num := numV) (Q := fun _ => True) numV_lt f (.stmts []) 0 (wordsL s).l trivial (fun _ _ _ => trivial)
    rw [hf] at hg
    obtain ⟨ys, e, hy⟩ := hg.1
    have : zs = ys := by simpa using e
    subst this
    show okPs 0 (embs zs)
    exact okPs_gT hy
/-- There is one outcome. -/
theorem prog_one {l : List Tk} {x x' : Tr} {t t' : Tk} {r r' : List Tk} (h : ProgR l (.ok [x] (t :: r))) (h' : ProgR l (.ok [x'] (t' :: r'))) : x = x' := by
  obtain ⟨zs, e1, h1, _⟩ := h
  obtain ⟨zs', e2, h2, _⟩ := h'
  have := Rd.one h1 h2
  cases this
  simp only [List.cons.injEq, and_true] at e1 e2
  rw [e1, e2]
theorem prog_ok_bad {l : Wd} {x : Tr} {t : Tk} {r : List Tk} {a er : Nat} (he : l.er = 0) (h : ProgR l.l (.ok [x] (t :: r))) (h' : BadR ProgR l a er) : False := by
  obtain ⟨zs, e1, h1, t1, r1, e2, hk⟩ := h
  rcases h' with ⟨h, _⟩ | ⟨_, h | ⟨xs, t', r', h, hk', _⟩⟩
  · exact h he
  · have := Rd.one (show Rd numV (.stmts []) 0 l.l (.bad a er) from h) h1
    cases this
  · obtain ⟨zs', e3, h3, _⟩ := h
    have := Rd.one h1 h3
    simp only [Out.ok.injEq] at this
    rw [e2] at this
    cases this.2
    exact hk' hk
theorem prog_bad {l : Wd} {a er a' er' : Nat} (h : BadR ProgR l a er) (h' : BadR ProgR l a' er') : a = a' ∧ er = er' := by
  rcases h with ⟨h1, rfl, rfl⟩ | ⟨h1, h | ⟨xs, t, r, h, hk, rfl, rfl⟩⟩ <;> rcases h' with ⟨h2, rfl, rfl⟩ | ⟨h2, h' | ⟨xs', t', r', h', hk', rfl, rfl⟩⟩
  · exact ⟨rfl, rfl⟩
  · exact absurd h2 h1
  · exact absurd h2 h1
  · exact absurd h1 h2
  · have := Rd.one (show Rd numV (.stmts []) 0 l.l (.bad a er) from h) (show Rd numV (.stmts []) 0 l.l (.bad a' er') from h')
    cases this
    exact ⟨rfl, rfl⟩
  · obtain ⟨zs', e3, h3, t3, r3, e4, hk3⟩ := h'
    simp only [List.cons.injEq] at e4
    rw [e4.1] at hk'
    exact absurd hk3 hk'
  · exact absurd h1 h2
  · obtain ⟨zs', e3, h3, t3, r3, e4, hk3⟩ := h
    simp only [List.cons.injEq] at e4
    rw [e4.1] at hk
    exact absurd hk3 hk
  · obtain ⟨zs', e3, h3, t3, r3, e4, hk3⟩ := h
    simp only [List.cons.injEq] at e4
    rw [e4.1] at hk
    exact absurd hk3 hk
theorem prog_er {s : Bs} {a er : Nat} (h : BadR ProgR (wordsL s) a er) : er ≠ 0 := by
  rcases h with ⟨h, _, rfl⟩ | ⟨h0, h | ⟨_, _, _, _, _, _, rfl⟩⟩
  · exact h
  · obtain ⟨f, hf⟩ := (show Rd numV (.stmts []) 0 (wordsL s).l (.bad a er) from h).at_
    have := (tells h0 hf).2
    omega
  · decide
end Go.Proofs.YtpoepignpdfleaaGreatDoor.Nm
/- DERIVED. The program's Program. By an AI agent. -/
namespace Go.Proofs.YtpoepignpdfleaaGreatDoor.Nm
open Go Go.ChangeShapes Go.WideShapes Go.ChangeAt Go.RowKit Lx Args Pa Sh
set_option linter.unusedVariables false
set_option linter.unusedSimpArgs false
abbrev zA : Value := .agg #[.int .i64 0, .string ⟨#[]⟩, .int .u32 0, .int .i64 0, .slice none 0 0, .slice none 0 0]
abbrev nA3 : Value := .agg #[.slice none 0 0, .slice none 0 0, .slice none 0 0]
/-- What a text is no program by. -/
def BadN (s : Bs) (a : Int) (er : Nat) : Prop := (∃ a' : Nat, a = (a' : Int) ∧ BadR ProgR (wordsL s) a' er) ∨ ((wordsL s).er = 0 ∧ er = 120 ∧ ∃ x t r, ProgR (wordsL s).l (.ok [x] (t :: r)) ∧ ckB (embz x) = .bad a)
/-- What Program hands back. -/
def PgmP (s : ByteArray) (w : World) (e : Ending) (w' : World) : Prop :=
  (∃ (k a : Nat) (sx : Bs) (n : Nat) (A : Option Addr) (la cA : Nat) (B : Option Addr) (lb cB : Nat) (x : Tr) (t : Tk) (r : List Tk) (vs vp vo : Value) (c : St), e = .returned (.tuple #[nzA (k : Int) (a : Int) sx n A la cA B lb cB, .agg #[vs, vp, vo], .int .i64 0, .int .i64 0]) ∧ (wordsL s.data.toList).er = 0 ∧ ProgR (wordsL s.data.toList).l (.ok [x] (t :: r)) ∧ ckB (embz x) = .ok c ∧
    TIn (fun b => w.heap.size ≤ b) w' x (ndC k a sx n A la cA B lb cB) ∧ NaP w.heap.size w' vs vp vo c ∧ Below w.heap.size w w') ∨
  (∃ (a : Int) (er : Nat), e = .returned (.tuple #[zA, nA3, .int .i64 a, .int .i64 (er : Int)]) ∧ er ≠ 0 ∧ BadN s.data.toList a er ∧ Below w.heap.size w w')
theorem res_cctt {fn : Func} {p q u v : Tmp} (h : fn.results = #[.cell p 26, .cell q 29, .tmp u, .tmp v]) (tmps : Array Value) (W : World) {g g' : Nat} {cs ds : Array Value} (hp : tmps.getD p undef = .pointer (some ⟨g, 0, none⟩)) (hq : tmps.getD q undef = .pointer (some ⟨g', 0, none⟩)) (hg : Blk W g 26 cs) (hg' : Blk W g' 29 ds) (hs : some 6 = some cs.size) (hs' : some 3 = some ds.size) {x y : Value} (hx : tmps.getD u undef = x) (hy : tmps.getD v undef = y) :
    (results fn tmps).run Tryz.prog W = .ok (.tuple #[.agg cs, .agg ds, x, y]) W := by
  subst hx; subst hy
  have hp' : tmps[p]?.getD undef = .pointer (some ⟨g, 0, none⟩) := by simpa using hp
  have hq' : tmps[q]?.getD undef = .pointer (some ⟨g', 0, none⟩) := by simpa using hq
  simp [results, h, hp', hq', asAddr, run_loadVar_row W g 26 26 cs (0, 0) _ hg Tryz.underlying26 rfl (szNd.trans hs), run_loadVar_row W g' 29 29 ds (0, 0) _ hg' Tryz.underlying29 rfl (szNm.trans hs')]
abbrev put3 (w : World) (g : Nat) (a b c : Value) : World := ((w.setCell ⟨g, 0, none⟩ a).setCell ⟨g, 1, none⟩ b).setCell ⟨g, 2, none⟩ c
theorem put3_upd {X : Nat → Prop} {w0 w : World} {g : Nat} (h : Upd X w0 w) (hg : g < w0.heap.size → X g) (a b c : Value) : Upd X w0 (put3 w g a b c) :=
  ((h.setCell (p := ⟨g, 0, none⟩) hg a).setCell (p := ⟨g, 1, none⟩) hg b).setCell (p := ⟨g, 2, none⟩) hg c
/-- Both boxes are set. -/
theorem put9 {w : World} {g g' : Nat} (hne : g ≠ g') {a b c d e f a1 b1 c1 : Value} (h : Blk w g 26 #[a, b, c, d, e, f]) (h' : Blk w g' 29 #[a1, b1, c1]) (a2 b2 c2 d2 e2 f2 a3 b3 c3 : Value) :
    Blk (put3 (put6 w g a2 b2 c2 d2 e2 f2) g' a3 b3 c3) g 26 #[a2, b2, c2, d2, e2, f2] ∧ Blk (put3 (put6 w g a2 b2 c2 d2 e2 f2) g' a3 b3 c3) g' 29 #[a3, b3, c3] ∧ Upd (fun b => b = g ∨ b = g') w (put3 (put6 w g a2 b2 c2 d2 e2 f2) g' a3 b3 c3) := by
  have h1 := Blk.put6 h a2 b2 c2 d2 e2 f2
  have h2 := put6_far h' hne.symm a2 b2 c2 d2 e2 f2
  refine ⟨h1.upd (X := fun b => b = g') (put3_upd (X := fun b => b = g') (Upd.refl _ _) (fun _ => rfl) _ _ _) hne, Blk.put3 h2 _ _ _, put3_upd (put6_upd (Upd.refl _ _) (fun _ => .inl rfl) _ _ _ _ _ _) (fun _ => .inr rfl) _ _ _⟩
set_option maxRecDepth 100000 in
set_option maxHeartbeats 1500000 in
theorem pgm (s : ByteArray) (w : World) : Calls Tryz.prog 6 #[.string s] w (PgmP s w) := by
  obtain ⟨w0, hw0, hb0, hB, hs0⟩ := a_box w #[.int .i64 0, .string ⟨#[]⟩, .int .u32 0, .int .i64 0, .slice none 0 0, .slice none 0 0]
  obtain ⟨w1, hw1⟩ : ∃ w1, w0.alloc (.cells #[.slice none 0 0, .slice none 0 0, .slice none 0 0] 29) = w1 := ⟨_, rfl⟩
  have hb1 : Below w0.heap.size w0 w1 := by rw [← hw1]; exact (Below.refl _ _).alloc (Nat.le_refl _) _
  have hs1 : w1.heap.size = w.heap.size + 2 := by rw [← hw1]; simp; omega
  have hC : Blk w1 (w.heap.size + 1) 29 #[.slice none 0 0, .slice none 0 0, .slice none 0 0] := by rw [← hw1, ← hs0]; exact Blk.new _ _ _
  have HB01 := Lib.hid (hb0.trans (hb1.mono hb0.size))
  obtain ⟨g, hg⟩ : ∃ g, w.heap.size = g := ⟨_, rfl⟩
  obtain ⟨g', hg'⟩ : ∃ g', g + 1 = g' := ⟨_, rfl⟩
  rw [hg] at hB hC
  rw [hg'] at hC
  have hgg : ¬ g = g' := by omega
  have hgg' : ¬ g' = g := by omega
  have HG := Lib.hid hg; have HG' := Lib.hid hg'
  have HB := Lib.hid (hB.below hb1 hB.lt); have HC := Lib.hid hC; have HW0 := Lib.hid hw0; have HW1 := Lib.hid hw1; have HP := Lib.hid (p_program s w1); have HS1 := Lib.hid hs1
  have HS0 := Lib.hid hs0
  clear hw0 hb0 hB hw1 hb1 hC hs1 hs0 hg hg'
  go_enter Tryz.func6, Tryz.ntmps6
  go_upto_region 1 with fail
  rw [HW0.out]
  rw [HW1.out]
  simp only [HG.out, HG'.out]
  go_wp2_with fail
  refine HP.out.mono ?_
  rintro e w2 (⟨k, a, sx, n, A, la, cA, B, lb, cB, x, t, r, rfl, h1, h2, h3, hT, hb⟩ | ⟨a, er, rfl, hbad, hb⟩)
  · obtain ⟨w3, hw3, hb3, hX3, hs3⟩ := a_box w2 (nB (k : Int) (a : Int) sx n A la cA B lb cB)
    have hb23 := hb.trans (hb3.mono hb.size)
    have hT3 := TIz.below hb3 (tIz_of hT)
    obtain ⟨hz1, hz2, hz3⟩ := prog_z h1 h2
    have HCK := Lib.hid (check (embz x) hz1 hz2 w3 (k : Int) (a : Int) sx n A la cA B lb cB hT3)
    have HT := Lib.hid (hT.upd (Upd.of_below hb3 fun _ => False) fun _ _ h => h)
    have HX3 := Lib.hid hX3; have HW3 := Lib.hid hw3; have HB3 := Lib.hid hb23; have HS3 := Lib.hid hs3
    have HER := Lib.hid h1; have HRD := Lib.hid h2
    have hsz := Lib.hid hb.size
    obtain ⟨⟨e0, e1, e2, e3, e4, e5⟩, z0, z1, z2, z3, z4, z5⟩ := Blk.c6 hX3
    obtain ⟨res, hres⟩ : ∃ res, ckB (embz x) = res := ⟨_, rfl⟩
    have HRES := Lib.hid hres
    rw [hres] at HCK
    clear hw3 hb3 hX3 hs3 hb hb23 hT hT3 hz1 hz2 hz3 h1 h2 h3 hres HP
    go_wp2_with fail
    rw [HW3.out]
    refine (show Calls Tryz.prog 15 #[nzA (k : Int) (a : Int) sx n A la cA B lb cB] w3 _ from HCK.out).mono ?_
    intro e w4 h4
    clear e0 e1 e2 e3 e4 e5 z0 z1 z2 z3 z4 z5 HCK
    cases res with
    | bad a1 =>
      have h4' : e = .returned (.tuple #[nA3, .int .i64 a1, .int .i64 120]) ∧ Below w3.heap.size w3 w4 := h4
      clear h4
      obtain ⟨rfl, hb4⟩ := h4'
      obtain ⟨w5, hw5⟩ : ∃ w5, w4.alloc (.cells #[.slice none 0 0, .slice none 0 0, .slice none 0 0] 29) = w5 := ⟨_, rfl⟩
      have hb5 : Below w4.heap.size w4 w5 := by rw [← hw5]; exact (Below.refl _ _).alloc (Nat.le_refl _) _
      have HW5 := Lib.hid hw5
      have hb14 := HB3.out.trans ((hb4.trans (hb5.mono hb4.size)).mono HB3.out.size)
      have hX := HB.out.below hb14 HB.out.lt
      have hY := HC.out.below hb14 HC.out.lt
      obtain ⟨⟨e0, e1, e2, e3, e4, e5⟩, z0, z1, z2, z3, z4, z5⟩ := Blk.c6 hX
      obtain ⟨c0, c1, c2, f0, f1, f2⟩ := Blk.c3 hY
      have hb14s := hb14.size
      obtain ⟨p1, p2, p3⟩ := put9 hgg hX hY (.int .i64 0) (.string ⟨#[]⟩) (.int .u32 0) (.int .i64 0) (.slice none 0 0) (.slice none 0 0) (.slice none 0 0) (.slice none 0 0) (.slice none 0 0)
      have HN1 := Lib.hid p1; have HN2 := Lib.hid p2
      have HEND := Lib.hid (show PgmP s w (.returned (.tuple #[zA, nA3, .int .i64 a1, .int .i64 ((120 : Nat) : Int)])) _ from .inr ⟨a1, 120, rfl, by decide, .inr ⟨HER.out, rfl, x, t, r, HRD.out, HRES.out⟩, (HB01.out.trans (hb14.mono (by have := HS1.out; omega))).trans (p3.below (by have := hb14.size; have := HG.out; have := HG'.out; have := HS1.out; omega) fun b hb => by rcases hb with h | h <;> (have := HG.out; have := HG'.out; omega))⟩)
      clear hX hY hb4 hb14 hb14s p1 p2 p3 hw5 hb5
      go_upto_region 5 with fail
      rw [HW5.out]
      go_wp2_with fail
      exact bodyPost_ret (v := .tuple #[zA, nA3, .int .i64 a1, .int .i64 120]) (res_cctt rfl _ _ rfl rfl HN1.out HN2.out rfl rfl rfl rfl) rfl HEND.out
    | ok c =>
      obtain ⟨vs, vp, vo, rfl, ⟨os, op, oo, hbd⟩, hb4⟩ := h4
      obtain ⟨As, cs, rfl⟩ := own_sl os
      obtain ⟨Ap, cp, rfl⟩ := own_sl op
      obtain ⟨Ao, co, rfl⟩ := own_sl oo
      obtain ⟨w5, hw5⟩ : ∃ w5, w4.alloc (.cells #[.slice As c.se.length cs, .slice Ap c.pu.length cp, .slice Ao c.ou.length co] 29) = w5 := ⟨_, rfl⟩
      have hb5 : Below w4.heap.size w4 w5 := by rw [← hw5]; exact (Below.refl _ _).alloc (Nat.le_refl _) _
      have hY5 : Blk w5 w4.heap.size 29 #[.slice As c.se.length cs, .slice Ap c.pu.length cp, .slice Ao c.ou.length co] := by rw [← hw5]; exact Blk.new _ _ _
      have hb46 := hb5
      have hb36 := hb4.trans (hb46.mono hb4.size)
      have hb16 := HB3.out.trans (hb36.mono HB3.out.size)
      have hu46 : Upd (fun _ => False) w4 w5 := Upd.of_below hb46 _
      have hX := HB.out.below hb16 HB.out.lt
      have hY := HC.out.below hb16 HC.out.lt
      have hN6 := HX3.out.below hb36 HX3.out.lt
      have hT6 := HT.out.upd (Upd.of_below hb36 fun _ => False) fun _ _ h => h
      have hsz4 := hb4.size
      have hsz3 := HS3.out
      have hs12 := HS1.out; have hgo := HG.out; have hgo' := HG'.out
      have hs46 := hb46.size
      have hb35 := hb4.trans (hb5.mono hb4.size)
      have hb15 := HB3.out.trans (hb35.mono HB3.out.size)
      obtain ⟨⟨e0, e1, e2, e3, e4, e5⟩, z0, z1, z2, z3, z4, z5⟩ := Blk.c6 (HB.out.below hb15 HB.out.lt)
      obtain ⟨c0, c1, c2, f0, f1, f2⟩ := Blk.c3 (HC.out.below hb15 HC.out.lt)
      obtain ⟨⟨g0, g1, g2, g3, g4, g5⟩, y0, y1, y2, y3, y4, y5⟩ := Blk.c6 (HX3.out.below hb35 HX3.out.lt)
      obtain ⟨d0, d1, d2, i0, i1, i2⟩ := Blk.c3 hY5
      obtain ⟨p1, p2, p3⟩ := put9 hgg hX hY (.int .i64 (k : Int)) (.string ⟨sx.toArray⟩) (.int .u32 (n : Int)) (.int .i64 (a : Int)) (.slice A la cA) (.slice B lb cB) (.slice As c.se.length cs) (.slice Ap c.pu.length cp) (.slice Ao c.ou.length co)
      obtain ⟨wp, hwp⟩ : ∃ wp, put3 (put6 w5 g (.int .i64 (k : Int)) (.string ⟨sx.toArray⟩) (.int .u32 (n : Int)) (.int .i64 (a : Int)) (.slice A la cA) (.slice B lb cB)) g' (.slice As c.se.length cs) (.slice Ap c.pu.length cp) (.slice Ao c.ou.length co) = wp := ⟨_, rfl⟩
      rw [hwp] at p1 p2 p3
      have hdr : Below wp.heap.size wp wp.drew := Below.drew (Below.refl _ _)
      have HN1 := Lib.hid (p1.below hdr p1.lt); have HN2 := Lib.hid (p2.below hdr p2.lt)
      replace p3 := p3.trans (Upd.of_below hdr _)
      have hpo : ∀ {e : TypeId} {sz m : Nat} {v : Value} {xs : List Value}, w4.ownsRow w3.heap.size e sz v m xs → wp.drew.ownsRow w.heap.size e sz v m xs := fun h =>
        own_lo (own_updV (own_updV h hu46 fun _ _ h => h) p3 fun b hb hq => by have := hsz.out; have := (own_atV h b hb).1; omega) (by have := hsz.out; omega)
      have HEND := Lib.hid (show PgmP s w (.returned (.tuple #[nzA (k : Int) (a : Int) sx n A la cA B lb cB, .agg #[.slice As c.se.length cs, .slice Ap c.pu.length cp, .slice Ao c.ou.length co], .int .i64 0, .int .i64 0])) wp.drew from
        .inl ⟨k, a, sx, n, A, la, cA, B, lb, cB, x, t, r, _, _, _, c, rfl, HER.out, HRD.out, HRES.out, (hT6.upd p3 fun b hb h => by have := hsz.out; omega).mono fun b hb _ => by have := hsz.out; omega, ⟨hpo os, hpo op, hpo oo, hbd⟩, (HB01.out.trans (hb16.mono (by have := HS1.out; omega))).trans (p3.below (by have := hb16.size; have := HS1.out; omega) fun b hb => by rcases hb with h | h <;> (have := HG.out; have := HG'.out; omega))⟩)
      have HW5 := Lib.hid hw5; have hwp' := hwp
      unfold put3 put6 at hwp'
      have HWP := Lib.hid hwp'
      have q1 : ¬ g = w4.heap.size := by have := hsz.out; omega
      have q2 : ¬ w4.heap.size = g := by have := hsz.out; omega
      clear hb35 hb15 hX hY hN6 hT6 hb4 hb5 hb46 hb36 hb16 hu46 hpo hgo hgo' hs12 hsz3 hsz4 hs46 p1 p2 p3 os op oo hbd hw5 hwp hwp' hY5 hdr
      go_upto_region 7 with fail
      rw [HW5.out]
      go_region
      all_goals (
        rw [HWP.out]
        go_wp2_with fail
        exact bodyPost_ret (v := .tuple #[nzA (k : Int) (a : Int) sx n A la cA B lb cB, .agg #[.slice As c.se.length cs, .slice Ap c.pu.length cp, .slice Ao c.ou.length co], .int .i64 0, .int .i64 0]) (res_cctt rfl _ _ rfl rfl HN1.out HN2.out rfl rfl rfl rfl) rfl HEND.out)
  · have hX := HB.out.below hb HB.out.lt
    have hY := HC.out.below hb HC.out.lt
    have hs12 := HS1.out; have hgo := HG.out; have hgo' := HG'.out
    have hbs := hb.size
    have her := prog_er hbad
    obtain ⟨w3, hw3, hb3, hX3, hs3⟩ := a_box w2 #[.int .i64 0, .string ⟨#[]⟩, .int .u32 0, .int .i64 0, .slice none 0 0, .slice none 0 0]
    have hX' := hX.below hb3 hX.lt
    have hY' := hY.below hb3 hY.lt
    have hb13 := hb.trans (hb3.mono hb.size)
    have hbs3 := hb13.size
    obtain ⟨⟨e0, e1, e2, e3, e4, e5⟩, z0, z1, z2, z3, z4, z5⟩ := Blk.c6 hX'
    obtain ⟨c0, c1, c2, f0, f1, f2⟩ := Blk.c3 hY'
    obtain ⟨p1, p2, p3⟩ := put9 hgg hX' hY' (.int .i64 0) (.string ⟨#[]⟩) (.int .u32 0) (.int .i64 0) (.slice none 0 0) (.slice none 0 0) (.slice none 0 0) (.slice none 0 0) (.slice none 0 0)
    have HN1 := Lib.hid p1; have HN2 := Lib.hid p2
    have hz : ((er : Int) != 0) = true := by simp; omega
    have HEND := Lib.hid (show PgmP s w (.returned (.tuple #[zA, nA3, .int .i64 (a : Int), .int .i64 (er : Int)])) _ from .inr ⟨(a : Int), er, rfl, her, .inl ⟨a, rfl, hbad⟩, (HB01.out.trans (hb13.mono (by have := HS1.out; omega))).trans (p3.below (by have := HS1.out; omega) fun b hb => by rcases hb with h | h <;> (have := HG.out; have := HG'.out; omega))⟩)
    have HW3 := Lib.hid hw3
    clear hX hY hX' hY' hb hb13 hb3 hX3 hw3 p1 p2 p3 hbad hgo hgo' hs12 hbs hbs3
    go_upto_region 2 with fail
    rw [HW3.out]
    go_wp2_with fail
    exact bodyPost_ret (v := .tuple #[zA, nA3, .int .i64 (a : Int), .int .i64 (er : Int)]) (res_cctt rfl _ _ rfl rfl HN1.out HN2.out rfl rfl rfl rfl) rfl HEND.out
end Go.Proofs.YtpoepignpdfleaaGreatDoor.Nm
/- DERIVED. The laws' lives. By an AI agent. -/
namespace Go.Proofs.YtpoepignpdfleaaGreatDoor.Nm
open Go Go.ChangeShapes Go.WideShapes Go.ChangeAt Go.RowKit Lx Args Pa Sh
set_option linter.unusedVariables false
set_option linter.unusedSimpArgs false
def txA : Bs := [115, 101, 99, 114, 101, 116, 32, 97, 59, 32, 112, 117, 98, 108, 105, 99, 32, 112, 59, 32, 111, 117, 116, 32, 111, 32, 61, 32, 97, 32, 94, 32, 112, 59]
def txB : Bs := [120, 32, 61, 32, 97, 59]
def tkA : List Tk := [⟨3, [115, 101, 99, 114, 101, 116], 0⟩, ⟨1, [97], 7⟩, ⟨4, [59], 8⟩, ⟨3, [112, 117, 98, 108, 105, 99], 10⟩, ⟨1, [112], 17⟩, ⟨4, [59], 18⟩, ⟨3, [111, 117, 116], 20⟩, ⟨1, [111], 24⟩, ⟨4, [61], 26⟩, ⟨1, [97], 28⟩, ⟨4, [94], 30⟩, ⟨1, [112], 32⟩, ⟨4, [59], 33⟩, ⟨0, [], 34⟩]
def tkB : List Tk := [⟨1, [120], 0⟩, ⟨4, [61], 2⟩, ⟨1, [97], 4⟩, ⟨4, [59], 5⟩, ⟨0, [], 6⟩]
def zsA : List Tr := [.mk 6 0 [] 0 [[97]] [], .mk 7 10 [] 0 [[112]] [], .mk 8 20 [111] 0 [] [.mk 3 28 [94] 0 [] [.mk 1 28 [97] 0 [] [], .mk 1 32 [112] 0 [] []]]]
def zsB : List Tr := [.mk 10 0 [120] 0 [] [.mk 1 4 [97] 0 [] []]]
theorem wordsA : wordsL txA = ⟨tkA, 0, 0⟩ := by rfl
theorem wordsB : wordsL txB = ⟨tkB, 0, 0⟩ := by rfl
theorem treeA : pF numV 60 (.stmts []) 0 tkA = some (.ok zsA [⟨0, [], 34⟩]) := by rfl
theorem treeB : pF numV 60 (.stmts []) 0 tkB = some (.ok zsB [⟨0, [], 6⟩]) := by rfl
theorem progA : ProgR tkA (.ok [.mk 13 0 [] 0 [] zsA] [⟨0, [], 34⟩]) := ⟨zsA, rfl, ⟨60, fun f hf => pF_mono numV 60 f hf _ _ _ _ treeA⟩, _, _, rfl, rfl⟩
theorem progB : ProgR tkB (.ok [.mk 13 0 [] 0 [] zsB] [⟨0, [], 6⟩]) := ⟨zsB, rfl, ⟨60, fun f hf => pF_mono numV 60 f hf _ _ _ _ treeB⟩, _, _, rfl, rfl⟩
theorem ckA : ∃ c, ckB (embz (.mk 13 0 [] 0 [] zsA)) = .ok c ∧ c.se.length = 1 ∧ c.pu.length = 1 ∧ c.ou.length = 1 := ⟨_, rfl, rfl, rfl, rfl⟩
theorem ckBd : ckB (embz (.mk 13 0 [] 0 [] zsB)) = .bad 4 := by rfl
theorem hBB {w w1 w2 w3 : World} (h1 : Below w.heap.size w w1) (h2 : Below w1.heap.size w1 w2) (h3 : Below w2.heap.size w2 w3) : Below w.heap.size w w3 := h1.trans ((h2.trans (h3.mono h2.size)).mono h1.size)
/-- What is told of the first text. -/
theorem pgA (w : World) : Calls Tryz.prog 6 #[.string ⟨txA.toArray⟩] w fun e w' => ∃ (k a : Nat) (sx : Bs) (n : Nat) (A : Option Addr) (la cA : Nat) (B : Option Addr) (lb cB : Nat) (As Ap Ao : Option Addr) (cs cp co : Nat), e = .returned (.tuple #[nzA (k : Int) (a : Int) sx n A la cA B lb cB, .agg #[.slice As 1 cs, .slice Ap 1 cp, .slice Ao 1 co], .int .i64 0, .int .i64 0]) ∧ Below w.heap.size w w' := by
  refine (pgm ⟨txA.toArray⟩ w).mono fun e w' h => ?_
  have hw : wordsL (⟨txA.toArray⟩ : ByteArray).data.toList = ⟨tkA, 0, 0⟩ := wordsA
  rcases h with ⟨k, a, sx, n, A, la, cA, B, lb, cB, x, t, r, vs, vp, vo, c, rfl, h1, h2, h3, hT, ⟨os, op, oo, _⟩, hb⟩ | ⟨a, er, rfl, hne, hbad, hb⟩
  · rw [hw] at h2
    obtain rfl := prog_one h2 progA
    obtain ⟨c', h4, l1, l2, l3⟩ := ckA
    rw [h4] at h3
    cases h3
    obtain ⟨As, cs, rfl⟩ := own_sl os
    obtain ⟨Ap, cp, rfl⟩ := own_sl op
    obtain ⟨Ao, co, rfl⟩ := own_sl oo
    rw [l1, l2, l3]
    exact ⟨k, a, sx, n, A, la, cA, B, lb, cB, As, Ap, Ao, cs, cp, co, rfl, hb⟩
  · exfalso
    rcases hbad with ⟨a', _, h⟩ | ⟨_, _, x, t, r, h, h'⟩
    · exact prog_ok_bad (l := wordsL (⟨txA.toArray⟩ : ByteArray).data.toList) (by rw [hw]) (by rw [hw]; exact progA) h
    · rw [hw] at h
      obtain rfl := prog_one h progA
      obtain ⟨c', h4, _⟩ := ckA
      rw [h4] at h'
      cases h'
theorem pgB (w : World) : Calls Tryz.prog 6 #[.string ⟨txB.toArray⟩] w fun e w' => e = .returned (.tuple #[zA, nA3, .int .i64 4, .int .i64 120]) ∧ Below w.heap.size w w' := by
  refine (pgm ⟨txB.toArray⟩ w).mono fun e w' h => ?_
  have hw : wordsL (⟨txB.toArray⟩ : ByteArray).data.toList = ⟨tkB, 0, 0⟩ := wordsB
  rcases h with ⟨k, a, sx, n, A, la, cA, B, lb, cB, x, t, r, vs, vp, vo, c, rfl, h1, h2, h3, hT, _, hb⟩ | ⟨a, er, rfl, hne, hbad, hb⟩
  · exfalso
    rw [hw] at h2
    obtain rfl := prog_one h2 progB
    rw [ckBd] at h3
    cases h3
  · rcases hbad with ⟨a', _, h⟩ | ⟨_, rfl, x, t, r, h, h'⟩
    · exact (prog_ok_bad (l := wordsL (⟨txB.toArray⟩ : ByteArray).data.toList) (by rw [hw]) (by rw [hw]; exact progB) h).elim
    · rw [hw] at h
      obtain rfl := prog_one h progB
      rw [ckBd] at h'
      cases h'
      exact ⟨rfl, hb⟩
set_option maxRecDepth 100000 in
set_option maxHeartbeats 4000000 in
theorem lives (w : World) : Calls Tryz.prog 10 #[] w fun e w' => e = .returned (.bool true) ∧ Below w.heap.size w w' := by
  have HA := Lib.hid (pgA w); have HBB := Lib.hid pgB
  go_enter Tryz.func10, Tryz.ntmps10
  go_wp2_with fail
  refine (show Calls Tryz.prog 6 #[.string ⟨#[115, 101, 99, 114, 101, 116, 32, 97, 59, 32, 112, 117, 98, 108, 105, 99, 32, 112, 59, 32, 111, 117, 116, 32, 111, 32, 61, 32, 97, 32, 94, 32, 112, 59]⟩] w _ from HA.out).mono ?_
  rintro e w1 ⟨k, a, sx, n, A, la, cA, B, lb, cB, As, Ap, Ao, cs, cp, co, rfl, hb1⟩
  obtain ⟨w2, hw2, hb2, hX2, hs2⟩ := a_box w1 (nB (k : Int) (a : Int) sx n A la cA B lb cB)
  obtain ⟨w3, hw3⟩ : ∃ w3, w2.alloc (.cells #[.slice As 1 cs, .slice Ap 1 cp, .slice Ao 1 co] 29) = w3 := ⟨_, rfl⟩
  have hb3 : Below w2.heap.size w2 w3 := by rw [← hw3]; exact (Below.refl _ _).alloc (Nat.le_refl _) _
  have hX3 : Blk w3 w2.heap.size 29 #[.slice As 1 cs, .slice Ap 1 cp, .slice Ao 1 co] := by rw [← hw3]; exact Blk.new _ _ _
  rw [hs2] at hX3
  have HB := Lib.hid (hBB hb1 hb2 hb3); have HX3 := Lib.hid hX3; have HW2 := Lib.hid hw2; have HW3 := Lib.hid hw3; have HC := Lib.hid (HBB.out w3)
  clear hb1 hb2 hb3 hw2 hw3 hX2 hX3 hs2 HA
  go_upto_region 2 with fail
  rw [HW2.out, HW3.out]
  go_wp2_with fail
  refine (show Calls Tryz.prog 6 #[.string ⟨#[120, 32, 61, 32, 97, 59]⟩] w3 _ from HC.out).mono ?_
  rintro e w4 ⟨rfl, hb4⟩
  obtain ⟨w5, hw5, hb5, hX5, hs5⟩ := a_box w4 #[.int .i64 0, .string ⟨#[]⟩, .int .u32 0, .int .i64 0, .slice none 0 0, .slice none 0 0]
  obtain ⟨w6, hw6⟩ : ∃ w6, w5.alloc (.cells #[.slice none 0 0, .slice none 0 0, .slice none 0 0] 29) = w6 := ⟨_, rfl⟩
  have hb6 : Below w5.heap.size w5 w6 := by rw [← hw6]; exact (Below.refl _ _).alloc (Nat.le_refl _) _
  have hb36 := hBB hb4 hb5 hb6
  obtain ⟨c0, c1, c2, f0, f1, f2⟩ := Blk.c3 (HX3.out.below hb36 HX3.out.lt)
  have HB6 := Lib.hid (HB.out.trans (hb36.mono HB.out.size)); have HW5 := Lib.hid hw5; have HW6 := Lib.hid hw6
  clear hb4 hb5 hb6 hb36 hw5 hw6 hX5 hs5
  go_upto_region 3 with fail
  rw [HW5.out, HW6.out]
  go_wp2_with fail
  go_ret
  exact ⟨rfl, HB6.out⟩
end Go.Proofs.YtpoepignpdfleaaGreatDoor.Nm
