/- DERIVED. PaSpec, PaSk, PaMo in one text. By an AI agent. -/
import Derived.Test.YtkdpndoollbggaaDoorZ02
/- DERIVED. The grammar of programs, plainly: what tokens are read as, and what is wrong first. Of no program. By an AI agent. -/
namespace Go.Proofs.YtkdpndoollbggaaDoor.Pa
open Lx
inductive Tr
  | mk (k at_ : Nat) (s : Bs) (n : Nat) (ps : List Bs) (l : List Tr)
def Tr.place : Tr → Nat
  | .mk _ a _ _ _ _ => a
def Tr.put : Tr → Nat → Tr
  | .mk k _ s n ps l, a => .mk k a s n ps l
inductive Out
  | ok (l : List Tr) (r : List Tk)
  | bad (at_ er : Nat)
/-- What is read: an expression of a level (5: UNARY), what goes on behind one, behind arguments, a statement's end, statements. -/
inductive NT
  | lev (n : Nat)
  | more (n : Nat) (x : Tr)
  | args (l : List Tr)
  | fin (k a : Nat) (s : Bs) (ps : List Bs)
  | inner
  | inners (l : List Tr)
  | stmt
  | stmts (l : List Tr)
def isS (b : Bs) (t : Tk) : Bool := decide (2 < t.k) && t.s == b
def sOf : Nat → List Bs
  | 0 => [[124]]
  | 1 => [[94]]
  | 2 => [[38]]
  | 3 => [[60, 60], [62, 62], [60, 60, 60]]
  | _ => [[43], [45]]
def onS (n : Nat) (t : Tk) : Bool := t.k == 4 && (sOf n).contains t.s
def hd (xs : List Tr) : Tr := xs.headD (.mk 0 0 [] 0 [] [])
abbrev OO := Option Out
def bnd (o : OO) (f : List Tr → List Tk → OO) : OO :=
  match o with
  | none => none
  | some (.bad a e) => some (.bad a e)
  | some (.ok l r) => f l r
def wrong (l : List Tk) (e : Nat) : OO := some (.bad (match l with | [] => 0 | t :: _ => t.at_) e)
def must (b : Bs) (l : List Tk) (f : List Tk → OO) : OO :=
  match l with
  | [] => wrong l 100
  | t :: r => if isS b t = true then f r else wrong l 100
def nameK (l : List Tk) (f : Bs → List Tk → OO) : OO :=
  match l with
  | [] => wrong l 100
  | t :: r => if t.k = 1 then f t.s r else wrong l 100
def namesK : List Bs → List Tk → (List Bs → List Tk → OO) → OO
  | _, [], _ => wrong [] 100
  | ps, [t], f => if t.k = 1 then f (ps ++ [t.s]) [] else wrong [t] 100
  | ps, t :: u :: r, f => if t.k = 1 then (if isS [44] u = true then namesK (ps ++ [t.s]) r f else f (ps ++ [t.s]) (u :: r)) else wrong (t :: u :: r) 100
/-- With fuel f; num: a number's value and error (0: none; 4: no number). -/
def pF (num : Bs → Nat × Nat) : Nat → NT → Nat → List Tk → OO
  | 0, _, _, _ => none
  | f + 1, .lev n, d, l =>
    if n < 5 then bnd (pF num f (.lev (n + 1)) d l) fun xs r => pF num f (.more n (hd xs)) d r
    else match l with
      | [] => wrong [] 100
      | t :: r =>
        if 60 < d then wrong (t :: r) 150
        else if (isS [126] t || isS [45] t) = true then bnd (pF num f (.lev 5) (d + 1) r) fun xs r' => some (.ok [.mk 2 t.at_ t.s 0 [] xs] r')
        else if t.k = 2 then (if (num t.s).2 = 0 then some (.ok [.mk 0 t.at_ [] (num t.s).1 [] []] r) else wrong (t :: r) (if (num t.s).2 = 4 then 100 else 150))
        else if isS [40] t = true then bnd (pF num f (.lev 0) (d + 1) r) fun xs r' => must [41] r' fun r'' => some (.ok (xs.map (·.put t.at_)) r'')
        else nameK (t :: r) fun s r => match r with
          | [] => some (.ok [.mk 1 t.at_ s 0 [] []] [])
          | u :: r' => if isS [40] u = true then bnd (pF num f (.lev 0) (d + 1) r') fun xs r'' => bnd (pF num f (.args xs) (d + 1) r'') fun ys r3 => must [41] r3 fun r4 => some (.ok [.mk 5 t.at_ s 0 [] ys] r4)
            else some (.ok [.mk 1 t.at_ s 0 [] []] (u :: r'))
  | f + 1, .more n x, d, l =>
    match l with
    | [] => some (.ok [x] [])
    | t :: r => if onS n t = true then bnd (pF num f (.lev (n + 1)) d r) fun ys r' => pF num f (.more n (.mk (if n = 3 then 4 else 3) x.place t.s 0 [] (x :: ys))) d r' else some (.ok [x] (t :: r))
  | f + 1, .args xs, d, l =>
    match l with
    | [] => some (.ok xs [])
    | t :: r => if isS [44] t = true then bnd (pF num f (.lev 0) d r) fun ys r' => pF num f (.args (xs ++ ys)) d r' else some (.ok xs (t :: r))
  | f + 1, .fin k a s ps, d, l => bnd (pF num f (.lev 0) d l) fun xs r => must [59] r fun r' => some (.ok [.mk k a s 0 ps xs] r')
  | f + 1, .inner, d, l =>
    match l with
    | [] => wrong [] 100
    | t :: r =>
      if 60 < d then wrong (t :: r) 150
      else if isS [102, 111, 114] t = true then nameK r fun s r1 => must [105, 110] r1 fun r2 => bnd (pF num f (.lev 0) d r2) fun xs r3 => must [46, 46] r3 fun r4 => bnd (pF num f (.lev 0) d r4) fun ys r5 => must [123] r5 fun r6 =>
        bnd (pF num f (.inners (xs ++ ys)) d r6) fun zs r7 => some (.ok [.mk 11 t.at_ s 0 [] zs] r7)
      else nameK (t :: r) fun s r1 => must [61] r1 fun r2 => pF num f (.fin 10 t.at_ s []) d r2
  | f + 1, .inners zs, d, l =>
    match l with
    | [] => wrong [] 100
    | t :: r => if isS [125] t = true then some (.ok zs r) else bnd (pF num f .inner (d + 1) (t :: r)) fun xs r' => pF num f (.inners (zs ++ xs)) d r'
  | f + 1, .stmt, d, l =>
    match l with
    | [] => wrong [] 100
    | t :: r =>
      if isS [115, 101, 99, 114, 101, 116] t = true then namesK [] r fun ps r1 => must [59] r1 fun r2 => some (.ok [.mk 6 t.at_ [] 0 ps []] r2)
      else if isS [112, 117, 98, 108, 105, 99] t = true then namesK [] r fun ps r1 => must [59] r1 fun r2 => some (.ok [.mk 7 t.at_ [] 0 ps []] r2)
      else if isS [111, 117, 116] t = true then nameK r fun s r1 => must [61] r1 fun r2 => pF num f (.fin 8 t.at_ s []) d r2
      else if isS [115, 104, 111, 119] t = true then nameK r fun s r1 => must [61] r1 fun r2 => pF num f (.fin 9 t.at_ s []) d r2
      else if isS [102, 110] t = true then nameK r fun s r1 => must [40] r1 fun r2 => namesK [] r2 fun ps r3 => must [41] r3 fun r4 => must [61] r4 fun r5 => pF num f (.fin 12 t.at_ s ps) d r5
      else pF num f .inner 0 (t :: r)
  | f + 1, .stmts xs, d, l =>
    match l with
    | [] => wrong [] 100
    | t :: r => if t.k = 0 then some (.ok xs (t :: r)) else bnd (pF num f .stmt 0 (t :: r)) fun ys r' => pF num f (.stmts (xs ++ ys)) d r'
mutual
/-- A tree without places. -/
def sk : Tr → Tr
  | .mk k _ s n ps l => .mk k 0 s n ps (skL l)
def skL : List Tr → List Tr
  | [] => []
  | x :: l => sk x :: skL l
end
def Out.sk : Out → Out
  | .ok l r => .ok (skL l) (r.map fun t => ⟨t.k, t.s, 0⟩)
  | .bad _ e => .bad 0 e
theorem skL_app : ∀ (a b : List Tr), skL (a ++ b) = skL a ++ skL b
  | [], _ => rfl
  | x :: a, b => by show sk x :: skL (a ++ b) = _; rw [skL_app a b]; rfl
/-- Tokens that are the same but for their places. -/
def Sl (l l' : List Tk) : Prop := l.map (fun t => (⟨t.k, t.s, 0⟩ : Tk)) = l'.map fun t => ⟨t.k, t.s, 0⟩
theorem sl_cons {t t' : Tk} {l l' : List Tk} (h : Sl (t :: l) (t' :: l')) : t.k = t'.k ∧ t.s = t'.s ∧ Sl l l' := by
  unfold Sl at h
  simp only [List.map_cons, List.cons.injEq, Tk.mk.injEq, and_true] at h
  exact ⟨h.1.1, h.1.2, h.2⟩
theorem sl_mk {t t' : Tk} {l l' : List Tk} (hk : t.k = t'.k) (hs : t.s = t'.s) (h : Sl l l') : Sl (t :: l) (t' :: l') := by
  unfold Sl at *
  simp only [List.map_cons, hk, hs, h]
theorem sl_strip {l l' : List Tk} (h : strip l = strip l') : Sl l l' := by
  induction l generalizing l' with
  | nil => cases l' with
    | nil => rfl
    | cons t l' => cases h
  | cons t l ih => cases l' with
    | nil => cases h
    | cons t' l' =>
      simp only [strip, List.map_cons, List.cons.injEq, Prod.mk.injEq] at h
      exact sl_mk h.1.1 h.1.2 (ih h.2)
/-- Outcomes that are the same but for places. -/
def Eo (o o' : OO) : Prop := o.map Out.sk = o'.map Out.sk
theorem eo_ok {l l' : List Tr} {r r' : List Tk} (h1 : skL l = skL l') (h2 : Sl r r') : Eo (some (.ok l r)) (some (.ok l' r')) := by
  show some (Out.ok (skL l) _) = some (Out.ok (skL l') _)
  rw [h1, show r.map (fun t => (⟨t.k, t.s, 0⟩ : Tk)) = _ from h2]
theorem eo_wrong (l l' : List Tk) (e : Nat) : Eo (wrong l e) (wrong l' e) := rfl
theorem eo_bnd {o o' : OO} {f f' : List Tr → List Tk → OO} (h : Eo o o') (hf : ∀ xs xs' r r', skL xs = skL xs' → Sl r r' → Eo (f xs r) (f' xs' r')) : Eo (bnd o f) (bnd o' f') := by
  unfold Eo at h
  rcases o with _ | ⟨l, r⟩ | ⟨a, e⟩ <;> rcases o' with _ | ⟨l', r'⟩ | ⟨a', e'⟩ <;> simp only [Option.map_none, Option.map_some, Out.sk, Option.some.injEq, Out.ok.injEq, Out.bad.injEq, reduceCtorEq, true_and] at h
  · rfl
  · exact hf _ _ _ _ h.1 h.2
  · subst h; rfl
theorem eo_must {b : Bs} {l l' : List Tk} {f f' : List Tk → OO} (h : Sl l l') (hf : ∀ r r', Sl r r' → Eo (f r) (f' r')) : Eo (must b l f) (must b l' f') := by
  cases l with
  | nil => cases l' with
    | nil => rfl
    | cons t l' => cases h
  | cons t l => cases l' with
    | nil => cases h
    | cons t' l' =>
      obtain ⟨h1, h2, h3⟩ := sl_cons h
      have e : isS b t = isS b t' := by unfold isS; rw [h1, h2]
      unfold must
      simp only
      rw [e]
      split
      · exact hf _ _ h3
      · rfl
theorem eo_name {l l' : List Tk} {f f' : Bs → List Tk → OO} (h : Sl l l') (hf : ∀ s r r', Sl r r' → Eo (f s r) (f' s r')) : Eo (nameK l f) (nameK l' f') := by
  cases l with
  | nil => cases l' with
    | nil => rfl
    | cons t l' => cases h
  | cons t l => cases l' with
    | nil => cases h
    | cons t' l' =>
      obtain ⟨h1, h2, h3⟩ := sl_cons h
      unfold nameK
      simp only
      rw [h1, h2]
      split
      · exact hf _ _ _ h3
      · rfl
theorem eo_names {f f' : List Bs → List Tk → OO} (hf : ∀ ps r r', Sl r r' → Eo (f ps r) (f' ps r')) : ∀ (ps : List Bs) (l l' : List Tk), Sl l l' → Eo (namesK ps l f) (namesK ps l' f')
  | ps, [], [], _ => rfl
  | _, [], _ :: _, h => by cases h
  | _, _ :: _, [], h => by cases h
  | ps, [t], [t'], h => by
    obtain ⟨h1, h2, h3⟩ := sl_cons h
    unfold namesK
    rw [h1, h2]
    split
    · exact hf _ _ _ h3
    · rfl
  | _, [_], _ :: _ :: _, h => by simp [Sl] at h
  | _, _ :: _ :: _, [_], h => by simp [Sl] at h
  | ps, t :: u :: r, t' :: u' :: r', h => by
    obtain ⟨h1, h2, h3⟩ := sl_cons h
    obtain ⟨g1, g2, g3⟩ := sl_cons h3
    have e : isS [44] u = isS [44] u' := by unfold isS; rw [g1, g2]
    unfold namesK
    rw [h1, h2, e]
    split
    · split
      · exact eo_names hf _ r r' g3
      · exact hf _ _ _ h3
    · rfl
end Go.Proofs.YtkdpndoollbggaaDoor.Pa
/- DERIVED. Places change nothing else in what is read. Of no program. By an AI agent. -/
namespace Go.Proofs.YtkdpndoollbggaaDoor.Pa
open Lx
def NT.sk : NT → NT
  | .lev n => .lev n
  | .more n x => .more n (Pa.sk x)
  | .args l => .args (skL l)
  | .fin k _ s ps => .fin k 0 s ps
  | .inner => .inner
  | .inners l => .inners (skL l)
  | .stmt => .stmt
  | .stmts l => .stmts (skL l)
theorem hd_sk {xs xs' : List Tr} (h : skL xs = skL xs') : sk (hd xs) = sk (hd xs') := by
  cases xs with
  | nil => cases xs' with
    | nil => rfl
    | cons x xs' => cases h
  | cons x xs => cases xs' with
    | nil => cases h
    | cons x' xs' => exact (List.cons.inj h).1
theorem put_sk (x : Tr) (a : Nat) : sk (x.put a) = sk x := by
  cases x; rfl
theorem puts_sk (a : Nat) : ∀ xs : List Tr, skL (xs.map (·.put a)) = skL xs
  | [] => rfl
  | x :: xs => by show sk (x.put a) :: skL (xs.map _) = sk x :: skL xs; rw [put_sk, puts_sk a xs]
theorem mk_sk {k a a' n : Nat} {s : Bs} {ps : List Bs} {l l' : List Tr} (h : skL l = skL l') : sk (.mk k a s n ps l) = sk (.mk k a' s n ps l') := by
  show Tr.mk k 0 s n ps (skL l) = Tr.mk k 0 s n ps (skL l'); rw [h]
theorem one_sk {x x' : Tr} (h : sk x = sk x') : skL [x] = skL [x'] := by show [sk x] = [sk x']; rw [h]
theorem isS_sl {t t' : Tk} (hk : t.k = t'.k) (hs : t.s = t'.s) (b : Bs) : isS b t = isS b t' := by unfold isS; rw [hk, hs]
theorem eo_if {c c' : Prop} [Decidable c] [Decidable c'] (hc : c ↔ c') {o o' p p' : OO} (h1 : Eo o o') (h2 : Eo p p') : Eo (if c then o else p) (if c' then o' else p') := by
  by_cases h : c
  · rw [if_pos h, if_pos (hc.1 h)]; exact h1
  · rw [if_neg h, if_neg (fun g => h (hc.2 g))]; exact h2
set_option maxHeartbeats 1000000 in
/-- What is read, but for places, hangs on the tokens' kinds and texts alone. -/
theorem pF_sk (num : Bs → Nat × Nat) : ∀ (f : Nat) (nt nt' : NT) (d : Nat) (l l' : List Tk), nt.sk = nt'.sk → Sl l l' → Eo (pF num f nt d l) (pF num f nt' d l') := by
  intro f
  induction f with
  | zero => intros; rfl
  | succ f ih =>
    have ihe : ∀ n d l l', Sl l l' → Eo (pF num f (.lev n) d l) (pF num f (.lev n) d l') := fun n d l l' h => ih _ _ d l l' rfl h
    have ihf : ∀ k a a' s ps d l l', Sl l l' → Eo (pF num f (.fin k a s ps) d l) (pF num f (.fin k a' s ps) d l') := fun k a a' s ps d l l' h => ih _ _ d l l' rfl h
    intro nt nt' d l l' hn h
    cases nt <;> cases nt' <;> simp only [NT.sk, reduceCtorEq, NT.lev.injEq, NT.more.injEq, NT.args.injEq, NT.fin.injEq, NT.inners.injEq, NT.stmts.injEq, true_and] at hn
    case lev.lev n n' =>
      subst hn
      unfold pF
      refine eo_if Iff.rfl (eo_bnd (ihe _ _ _ _ h) fun xs xs' r r' hx hr => ih _ _ _ _ _ (by simp only [NT.sk, hd_sk hx]) hr) ?_
      cases l with
      | nil => cases l' with
        | nil => rfl
        | cons t l' => cases h
      | cons t l => cases l' with
        | nil => cases h
        | cons t' l' =>
          obtain ⟨h1, h2, h3⟩ := sl_cons h
          simp only
          refine eo_if Iff.rfl rfl (eo_if (by rw [isS_sl h1 h2, isS_sl h1 h2]) (eo_bnd (ihe _ _ _ _ h3) fun xs xs' r r' hx hr => eo_ok (one_sk (by rw [h2]; exact mk_sk hx)) hr) (eo_if (by rw [h1]) ?_ (eo_if (by rw [isS_sl h1 h2]) (eo_bnd (ihe _ _ _ _ h3) fun xs xs' r r' hx hr => eo_must hr fun r2 r2' hr2 => eo_ok (by rw [puts_sk, puts_sk, hx]) hr2) (eo_name h fun s r r' hr => ?_))))
          · rw [h2]; exact eo_if Iff.rfl (eo_ok (one_sk (mk_sk rfl)) h3) rfl
          · cases r with
            | nil => cases r' with
              | nil => exact eo_ok (one_sk (mk_sk rfl)) rfl
              | cons u r' => cases hr
            | cons u r => cases r' with
              | nil => cases hr
              | cons u' r' =>
                obtain ⟨g1, g2, g3⟩ := sl_cons hr
                simp only
                exact eo_if (by rw [isS_sl g1 g2]) (eo_bnd (ihe _ _ _ _ g3) fun xs xs' r r' hx hr => eo_bnd (ih _ _ _ _ _ (by simp only [NT.sk, hx]) hr) fun ys ys' r r' hy hr => eo_must hr fun r r' hr => eo_ok (one_sk (mk_sk hy)) hr) (eo_ok (one_sk (mk_sk rfl)) hr)
    case more.more n x n' x' =>
      obtain ⟨rfl, hx⟩ := hn
      unfold pF
      cases l with
      | nil => cases l' with
        | nil => exact eo_ok (one_sk hx) rfl
        | cons t l' => cases h
      | cons t l => cases l' with
        | nil => cases h
        | cons t' l' =>
          obtain ⟨h1, h2, h3⟩ := sl_cons h
          simp only
          refine eo_if (by unfold onS; rw [h1, h2]) (eo_bnd (ihe _ _ _ _ h3) fun ys ys' r r' hy hr => ih _ _ _ _ _ ?_ hr) (eo_ok (one_sk hx) h)
          simp only [NT.sk]
          rw [h2]
          congr 1
          exact mk_sk (show sk x :: skL ys = sk x' :: skL ys' by rw [hx, hy])
    case args.args xs xs' =>
      unfold pF
      cases l with
      | nil => cases l' with
        | nil => exact eo_ok hn rfl
        | cons t l' => cases h
      | cons t l => cases l' with
        | nil => cases h
        | cons t' l' =>
          obtain ⟨h1, h2, h3⟩ := sl_cons h
          simp only
          exact eo_if (by rw [isS_sl h1 h2]) (eo_bnd (ihe _ _ _ _ h3) fun ys ys' r r' hy hr => ih _ _ _ _ _ (by simp only [NT.sk, skL_app, hn, hy]) hr) (eo_ok hn h)
    case fin.fin k a s ps k' a' s' ps' =>
      obtain ⟨rfl, rfl, rfl⟩ := hn
      unfold pF
      exact eo_bnd (ihe _ _ _ _ h) fun xs xs' r r' hx hr => eo_must hr fun r r' hr => eo_ok (one_sk (mk_sk hx)) hr
    case inner.inner =>
      unfold pF
      cases l with
      | nil => cases l' with
        | nil => rfl
        | cons t l' => cases h
      | cons t l => cases l' with
        | nil => cases h
        | cons t' l' =>
          obtain ⟨h1, h2, h3⟩ := sl_cons h
          simp only
          exact eo_if Iff.rfl rfl (eo_if (by rw [isS_sl h1 h2]) (eo_name h3 fun s r r' hr => eo_must hr fun r r' hr => eo_bnd (ihe _ _ _ _ hr) fun xs xs' r r' hx hr => eo_must hr fun r r' hr => eo_bnd (ihe _ _ _ _ hr) fun ys ys' r r' hy hr => eo_must hr fun r r' hr =>
            eo_bnd (ih _ _ _ _ _ (by simp only [NT.sk, skL_app, hx, hy]) hr) fun zs zs' r r' hz hr => eo_ok (one_sk (mk_sk hz)) hr) (eo_name h fun s r r' hr => eo_must hr fun r r' hr => ihf _ _ _ _ _ _ _ _ hr))
    case inners.inners zs zs' =>
      unfold pF
      cases l with
      | nil => cases l' with
        | nil => rfl
        | cons t l' => cases h
      | cons t l => cases l' with
        | nil => cases h
        | cons t' l' =>
          obtain ⟨h1, h2, h3⟩ := sl_cons h
          simp only
          exact eo_if (by rw [isS_sl h1 h2]) (eo_ok hn h3) (eo_bnd (ih _ _ _ _ _ rfl h) fun xs xs' r r' hx hr => ih _ _ _ _ _ (by simp only [NT.sk, skL_app, hn, hx]) hr)
    case stmt.stmt =>
      unfold pF
      cases l with
      | nil => cases l' with
        | nil => rfl
        | cons t l' => cases h
      | cons t l => cases l' with
        | nil => cases h
        | cons t' l' =>
          obtain ⟨h1, h2, h3⟩ := sl_cons h
          simp only
          refine eo_if (by rw [isS_sl h1 h2]) ?_ (eo_if (by rw [isS_sl h1 h2]) ?_ (eo_if (by rw [isS_sl h1 h2]) ?_ (eo_if (by rw [isS_sl h1 h2]) ?_ (eo_if (by rw [isS_sl h1 h2]) ?_ (ih _ _ _ _ _ rfl h)))))
          · refine eo_names (fun ps r r' hr => ?_) _ _ _ h3
            exact eo_must hr fun r r' hr => eo_ok (one_sk (mk_sk rfl)) hr
          · refine eo_names (fun ps r r' hr => ?_) _ _ _ h3
            exact eo_must hr fun r r' hr => eo_ok (one_sk (mk_sk rfl)) hr
          · refine eo_name h3 fun s r r' hr => ?_
            exact eo_must hr fun r r' hr => ihf _ _ _ _ _ _ _ _ hr
          · refine eo_name h3 fun s r r' hr => ?_
            exact eo_must hr fun r r' hr => ihf _ _ _ _ _ _ _ _ hr
          · refine eo_name h3 fun s r r' hr => eo_must hr fun r r' hr => ?_
            refine eo_names (fun ps r r' hr => ?_) _ _ _ hr
            exact eo_must hr fun r r' hr => eo_must hr fun r r' hr => ihf _ _ _ _ _ _ _ _ hr
    case stmts.stmts xs xs' =>
      unfold pF
      cases l with
      | nil => cases l' with
        | nil => rfl
        | cons t l' => cases h
      | cons t l => cases l' with
        | nil => cases h
        | cons t' l' =>
          obtain ⟨h1, h2, h3⟩ := sl_cons h
          simp only
          exact eo_if (by rw [h1]) (eo_ok hn h) (eo_bnd (ih _ _ _ _ _ rfl h) fun ys ys' r r' hy hr => ih _ _ _ _ _ (by simp only [NT.sk, skL_app, hn, hy]) hr)
end Go.Proofs.YtkdpndoollbggaaDoor.Pa
/- DERIVED. More fuel changes nothing; where an error is told, and which. Of no program. By an AI agent. -/
namespace Go.Proofs.YtkdpndoollbggaaDoor.Pa
open Lx
def Le (o o' : OO) : Prop := ∀ x, o = some x → o' = some x
theorem le_refl (o : OO) : Le o o := fun _ h => h
theorem le_if {c : Prop} [Decidable c] {o o' p p' : OO} (h1 : Le o o') (h2 : Le p p') : Le (if c then o else p) (if c then o' else p') := by
  by_cases h : c
  · rw [if_pos h, if_pos h]; exact h1
  · rw [if_neg h, if_neg h]; exact h2
theorem le_bnd {o o' : OO} {f f' : List Tr → List Tk → OO} (h : Le o o') (hf : ∀ xs r, Le (f xs r) (f' xs r)) : Le (bnd o f) (bnd o' f') := by
  rcases o with _ | ⟨l, r⟩ | ⟨a, e⟩
  · intro x hx; cases hx
  · rw [h _ rfl]; exact hf l r
  · rw [h _ rfl]; exact le_refl _
theorem le_must {b : Bs} {l : List Tk} {f f' : List Tk → OO} (hf : ∀ r, Le (f r) (f' r)) : Le (must b l f) (must b l f') := by
  cases l with
  | nil => exact le_refl _
  | cons t l => unfold must; exact le_if (hf _) (le_refl _)
theorem le_name {l : List Tk} {f f' : Bs → List Tk → OO} (hf : ∀ s r, Le (f s r) (f' s r)) : Le (nameK l f) (nameK l f') := by
  cases l with
  | nil => exact le_refl _
  | cons t l => unfold nameK; exact le_if (hf _ _) (le_refl _)
theorem le_names {f f' : List Bs → List Tk → OO} (hf : ∀ ps r, Le (f ps r) (f' ps r)) : ∀ (ps : List Bs) (l : List Tk), Le (namesK ps l f) (namesK ps l f')
  | _, [] => le_refl _
  | ps, [t] => by unfold namesK; exact le_if (hf _ _) (le_refl _)
  | ps, t :: u :: r => by unfold namesK; exact le_if (le_if (le_names hf _ r) (hf _ _)) (le_refl _)
/-- More fuel changes nothing. -/
theorem pF_mono (num : Bs → Nat × Nat) : ∀ (f g : Nat), f ≤ g → ∀ (nt : NT) (d : Nat) (l : List Tk), Le (pF num f nt d l) (pF num g nt d l) := by
  intro f
  induction f with
  | zero => intro g _ nt d l x hx; cases hx
  | succ f ih0 =>
    intro g hg nt d l
    obtain ⟨g, rfl⟩ : ∃ x, g = x + 1 := ⟨g - 1, by omega⟩
    have ih := ih0 g (by omega)
    clear ih0
    cases nt with
    | lev n =>
      unfold pF
      refine le_if (le_bnd (ih _ _ _) fun xs r => ih _ _ _) ?_
      cases l with
      | nil => exact le_refl _
      | cons t r =>
        simp only
        refine le_if (le_refl _) (le_if (le_bnd (ih _ _ _) fun xs r => le_refl _) (le_if (le_refl _) (le_if (le_bnd (ih _ _ _) fun xs r => le_refl _) (le_name fun s r => ?_))))
        cases r with
        | nil => exact le_refl _
        | cons u r => exact le_if (le_bnd (ih _ _ _) fun xs r => le_bnd (ih _ _ _) fun ys r => le_refl _) (le_refl _)
    | more n x =>
      unfold pF
      cases l with
      | nil => exact le_refl _
      | cons t r => exact le_if (le_bnd (ih _ _ _) fun ys r => ih _ _ _) (le_refl _)
    | args xs =>
      unfold pF
      cases l with
      | nil => exact le_refl _
      | cons t r => exact le_if (le_bnd (ih _ _ _) fun ys r => ih _ _ _) (le_refl _)
    | fin k a s ps =>
      unfold pF
      exact le_bnd (ih _ _ _) fun xs r => le_refl _
    | inner =>
      unfold pF
      cases l with
      | nil => exact le_refl _
      | cons t r =>
        exact le_if (le_refl _) (le_if (le_name fun s r => le_must fun r => le_bnd (ih _ _ _) fun xs r => le_must fun r => le_bnd (ih _ _ _) fun ys r => le_must fun r => le_bnd (ih _ _ _) fun zs r => le_refl _) (le_name fun s r => le_must fun r => ih _ _ _))
    | inners zs =>
      unfold pF
      cases l with
      | nil => exact le_refl _
      | cons t r => exact le_if (le_refl _) (le_bnd (ih _ _ _) fun xs r => ih _ _ _)
    | stmt =>
      unfold pF
      cases l with
      | nil => exact le_refl _
      | cons t r =>
        exact le_if (le_refl _) (le_if (le_refl _) (le_if (le_name fun s r => le_must fun r => ih _ _ _) (le_if (le_name fun s r => le_must fun r => ih _ _ _)
          (le_if (le_name fun s r => le_must fun r => le_names (fun ps r => le_must fun r => le_must fun r => ih _ _ _) _ _) (ih _ _ _)))))
    | stmts xs =>
      unfold pF
      cases l with
      | nil => exact le_refl _
      | cons t r => exact le_if (le_refl _) (le_bnd (ih _ _ _) fun ys r => ih _ _ _)
/-- What is read, whatever the fuel, is one. -/
theorem pF_one {num : Bs → Nat × Nat} {f g : Nat} {nt : NT} {d : Nat} {l : List Tk} {o o' : Out} (h : pF num f nt d l = some o) (h' : pF num g nt d l = some o') : o = o' := by
  have h1 := pF_mono num f (max f g) (Nat.le_max_left _ _) nt d l o h
  have h2 := pF_mono num g (max f g) (Nat.le_max_right _ _) nt d l o' h'
  rw [h1] at h2
  exact Option.some.inj h2
/-- Tokens with the end behind them. -/
def Et (l : List Tk) : Prop := ∃ u e, l = u ++ [e] ∧ e.k = 0 ∧ ∀ t ∈ u, t.k ≠ 0
theorem et_nil : ¬ Et [] := fun ⟨u, e, h, _⟩ => by cases u <;> cases h
theorem et_tail {t : Tk} {r : List Tk} (h : Et (t :: r)) (ht : t.k ≠ 0) : Et r := by
  obtain ⟨u, e, h1, h2, h3⟩ := h
  cases u with
  | nil => simp only [List.nil_append, List.cons.injEq] at h1; rw [h1.1] at ht; exact absurd h2 ht
  | cons x u => simp only [List.cons_append, List.cons.injEq] at h1; exact ⟨u, e, h1.2, h2, fun t ht => h3 t (List.mem_cons_of_mem _ ht)⟩
/-- A good outcome over tokens: what is left of them has the end; an error stands at one of them. -/
def Gd (l : List Tk) : OO → Prop
  | none => True
  | some (.ok _ r) => Et r ∧ r <:+ l
  | some (.bad a e) => (∃ t ∈ l, a = t.at_) ∧ (e = 100 ∨ e = 150)
theorem gd_up {l l' : List Tk} {o : OO} (h : Gd l o) (hl : l <:+ l') : Gd l' o := by
  rcases o with _ | ⟨xs, r⟩ | ⟨a, e⟩
  · trivial
  · exact ⟨h.1, h.2.trans hl⟩
  · obtain ⟨⟨t, ht, ha⟩, he⟩ := h
    exact ⟨⟨t, hl.subset ht, ha⟩, he⟩
theorem gd_wrong {l : List Tk} (h : Et l) {e : Nat} (he : e = 100 ∨ e = 150) : Gd l (wrong l e) := by
  cases l with
  | nil => exact absurd h et_nil
  | cons t r => exact ⟨⟨t, List.mem_cons_self .., rfl⟩, he⟩
theorem gd_ok {l r : List Tk} (xs : List Tr) (h : Et r) (hl : r <:+ l) : Gd l (some (.ok xs r)) := ⟨h, hl⟩
theorem gd_if {l : List Tk} {c : Prop} [Decidable c] {o p : OO} (h1 : c → Gd l o) (h2 : ¬ c → Gd l p) : Gd l (if c then o else p) := by
  by_cases h : c
  · rw [if_pos h]; exact h1 h
  · rw [if_neg h]; exact h2 h
theorem gd_bnd {l : List Tk} {o : OO} {f : List Tr → List Tk → OO} (h : Gd l o) (hf : ∀ xs r, Et r → r <:+ l → Gd r (f xs r)) : Gd l (bnd o f) := by
  rcases o with _ | ⟨xs, r⟩ | ⟨a, e⟩
  · trivial
  · exact gd_up (hf xs r h.1 h.2) h.2
  · exact h
theorem gd_must {b : Bs} {l : List Tk} {f : List Tk → OO} (h : Et l) (hf : ∀ r, Et r → Gd r (f r)) : Gd l (must b l f) := by
  cases l with
  | nil => exact absurd h et_nil
  | cons t r =>
    refine gd_if (fun hb => gd_up (hf r (et_tail h ?_)) (List.suffix_cons t r)) fun _ => gd_wrong h (.inl rfl)
    unfold isS at hb
    simp only [Bool.and_eq_true, decide_eq_true_eq] at hb
    omega
theorem gd_name {l : List Tk} {f : Bs → List Tk → OO} (h : Et l) (hf : ∀ s r, Et r → Gd r (f s r)) : Gd l (nameK l f) := by
  cases l with
  | nil => exact absurd h et_nil
  | cons t r => exact gd_if (fun hb => gd_up (hf t.s r (et_tail h (by omega))) (List.suffix_cons t r)) fun _ => gd_wrong h (.inl rfl)
theorem is_k {b : Bs} {t : Tk} (h : isS b t = true) : t.k ≠ 0 := by
  unfold isS at h
  simp only [Bool.and_eq_true, decide_eq_true_eq] at h
  omega
theorem gd_names {f : List Bs → List Tk → OO} (hf : ∀ ps r, Et r → Gd r (f ps r)) : ∀ (ps : List Bs) (l : List Tk), Et l → Gd l (namesK ps l f)
  | _, [], h => absurd h et_nil
  | ps, [t], h => by
    unfold namesK
    exact gd_if (fun hb => absurd (et_tail h (by omega)) et_nil) fun _ => gd_wrong h (.inl rfl)
  | ps, t :: u :: r, h => by
    unfold namesK
    refine gd_if (fun hb => ?_) fun _ => gd_wrong h (.inl rfl)
    have h2 := et_tail h (by omega)
    exact gd_if (fun hu => gd_up (gd_names hf _ r (et_tail h2 (is_k hu))) ((List.suffix_cons u r).trans (List.suffix_cons t _))) fun _ => gd_up (hf _ _ h2) (List.suffix_cons t _)
theorem on_k {n : Nat} {t : Tk} (h : onS n t = true) : t.k ≠ 0 := by
  unfold onS at h
  simp only [Bool.and_eq_true, beq_iff_eq] at h
  omega
/-- Errors stand at tokens; what is left has the end. -/
theorem pF_good (num : Bs → Nat × Nat) : ∀ (f : Nat) (nt : NT) (d : Nat) (l : List Tk), Et l → Gd l (pF num f nt d l) := by
  intro f
  induction f with
  | zero => intros; trivial
  | succ f ih =>
    intro nt d l h
    have one : ∀ {t : Tk} {r : List Tk} {o : OO}, Gd r o → Gd (t :: r) o := fun {t r o} hg => gd_up hg (List.suffix_cons t r)
    cases l with
    | nil => exact absurd h et_nil
    | cons t r =>
    cases nt with
    | lev n =>
      unfold pF
      refine gd_if (fun _ => gd_bnd (ih _ _ _ h) fun xs r hr _ => ih _ _ _ hr) fun _ => ?_
      refine gd_if (fun _ => gd_wrong h (.inr rfl)) fun _ => gd_if (fun hs => ?_) fun _ => gd_if (fun hk => ?_) fun _ => gd_if (fun hs => ?_) fun _ => gd_name h fun s r hr => ?_
      · have hr : Et r := et_tail h (by
          rcases Bool.or_eq_true_iff.1 hs with hs | hs <;> exact is_k hs)
        exact one (gd_bnd (ih _ _ _ hr) fun xs r' hr' _ => gd_ok _ hr' (List.suffix_refl _))
      · refine gd_if (fun _ => gd_ok _ (et_tail h (by omega)) (List.suffix_cons t r)) fun _ => gd_wrong h ?_
        by_cases h4 : (num t.s).2 = 4
        · rw [if_pos h4]; exact .inl rfl
        · rw [if_neg h4]; exact .inr rfl
      · exact one (gd_bnd (ih _ _ _ (et_tail h (is_k hs))) fun xs r' hr' _ => gd_must hr' fun r2 hr2 => gd_ok _ hr2 (List.suffix_refl _))
      · cases r with
        | nil => exact absurd hr et_nil
        | cons u r' =>
          refine gd_if (fun hu => ?_) fun _ => gd_ok _ hr (List.suffix_refl _)
          exact one (gd_bnd (ih _ _ _ (et_tail hr (is_k hu))) fun xs r2 hr2 _ => gd_bnd (ih _ _ _ hr2) fun ys r3 hr3 _ => gd_must hr3 fun r4 hr4 => gd_ok _ hr4 (List.suffix_refl _))
    | more n x =>
      unfold pF
      exact gd_if (fun hs => one (gd_bnd (ih _ _ _ (et_tail h (on_k hs))) fun ys r' hr' _ => ih _ _ _ hr')) fun _ => gd_ok _ h (List.suffix_refl _)
    | args xs =>
      unfold pF
      exact gd_if (fun hs => one (gd_bnd (ih _ _ _ (et_tail h (is_k hs))) fun ys r' hr' _ => ih _ _ _ hr')) fun _ => gd_ok _ h (List.suffix_refl _)
    | fin k a s ps =>
      unfold pF
      exact gd_bnd (ih _ _ _ h) fun xs r hr _ => gd_must hr fun r' hr' => gd_ok _ hr' (List.suffix_refl _)
    | inner =>
      unfold pF
      exact gd_if (fun _ => gd_wrong h (.inr rfl)) fun _ => gd_if (fun hs => one (gd_name (et_tail h (is_k hs)) fun s r hr => gd_must hr fun r hr => gd_bnd (ih _ _ _ hr) fun xs r hr _ => gd_must hr fun r hr => gd_bnd (ih _ _ _ hr) fun ys r hr _ => gd_must hr fun r hr => gd_bnd (ih _ _ _ hr) fun zs r hr _ => gd_ok _ hr (List.suffix_refl _)))
        fun _ => gd_name h fun s r hr => gd_must hr fun r hr => ih _ _ _ hr
    | inners zs =>
      unfold pF
      exact gd_if (fun hs => gd_ok _ (et_tail h (is_k hs)) (List.suffix_cons t r)) fun _ => gd_bnd (ih _ _ _ h) fun xs r hr _ => ih _ _ _ hr
    | stmt =>
      unfold pF
      refine gd_if (fun hs => one (gd_names (fun ps r hr => ?_) _ _ (et_tail h (is_k hs)))) fun _ => gd_if (fun hs => one (gd_names (fun ps r hr => ?_) _ _ (et_tail h (is_k hs)))) fun _ => gd_if (fun hs => one (gd_name (et_tail h (is_k hs)) fun s r hr => ?_)) fun _ =>
        gd_if (fun hs => one (gd_name (et_tail h (is_k hs)) fun s r hr => ?_)) fun _ => gd_if (fun hs => one (gd_name (et_tail h (is_k hs)) fun s r hr => ?_)) fun _ => ih _ _ _ h
      · exact gd_must hr fun r hr => gd_ok _ hr (List.suffix_refl _)
      · exact gd_must hr fun r hr => gd_ok _ hr (List.suffix_refl _)
      · exact gd_must hr fun r hr => ih _ _ _ hr
      · exact gd_must hr fun r hr => ih _ _ _ hr
      · refine gd_must hr fun r hr => gd_names (fun ps r hr => ?_) _ _ hr
        exact gd_must hr fun r hr => gd_must hr fun r hr => ih _ _ _ hr
    | stmts xs =>
      unfold pF
      exact gd_if (fun _ => gd_ok _ h (List.suffix_refl _)) fun _ => gd_bnd (ih _ _ _ h) fun ys r hr _ => ih _ _ _ hr
end Go.Proofs.YtkdpndoollbggaaDoor.Pa
