/- DERIVED. ShMz, ShOw in one text. By an AI agent. -/
import Derived.Test.YtokfmclbninkmaaGreatDoorZ08
import Derived.Test.YtokfmclbninkmaaGreatDoorZ49
import Derived.Test.YtokfmclbninkmaaGreatDoorZ21
import Derived.Deep.AppendLies
/- DERIVED. Trees of any kind as they lie in memory, and the blocks in which they lie. Of no program. By an AI agent. -/
namespace Go.Proofs.YtokfmclbninkmaaGreatDoor.Sh
open Go Go.RowKit Lx Args Pa
mutual
/-- A tree's six cells, and what stands behind them, in blocks of N. -/
def TZn (N : Nat → Prop) (w : World) : Tz → List Value → Prop
  | .mk k a s n ps l, cs => ∃ A cA B cB, cs = nzC k a s n A l.length cA B ps.length cB ∧ l.length ≤ maxLen ∧ ps.length ≤ maxLen ∧ Lies w B (ps.map strV) ∧ (∀ b o, B = some ⟨b, o, none⟩ → ps ≠ [] → N b) ∧
      ∃ css, Lies w A css.flatten ∧ (∀ b o, A = some ⟨b, o, none⟩ → l ≠ [] → N b) ∧ TsZn N w l css
def TsZn (N : Nat → Prop) (w : World) : List Tz → List (List Value) → Prop
  | [], css => css = []
  | x :: l, css => ∃ c r, css = c :: r ∧ TZn N w x c ∧ TsZn N w l r
end
mutual
theorem TZn.upd {N X : Nat → Prop} {w w' : World} (hu : Upd X w w') (hN : ∀ b, N b → ¬ X b) : ∀ {x : Tz} {cs : List Value}, TZn N w x cs → TZn N w' x cs
  | .mk _ _ _ _ ps l, _, h => by
    unfold TZn at h ⊢
    obtain ⟨A, cA, B, cB, h1, h2, h3, h4, h5, css, h6, h7, h8⟩ := h
    refine ⟨A, cA, B, cB, h1, h2, h3, hu.lies h4 fun b o e hl => hN b (h5 b o e fun e2 => ?_), h5, css, ?_, h7, TsZn.upd hu hN h8⟩
    · rw [e2] at hl; simp at hl
    · refine hu.lies h6 fun b o e hl => hN b (h7 b o e fun e2 => ?_)
      subst e2
      unfold TsZn at h8
      subst h8
      simp at hl
theorem TsZn.upd {N X : Nat → Prop} {w w' : World} (hu : Upd X w w') (hN : ∀ b, N b → ¬ X b) : ∀ {l : List Tz} {css : List (List Value)}, TsZn N w l css → TsZn N w' l css
  | [], _, h => by unfold TsZn at h ⊢; exact h
  | x :: l, _, h => by
    unfold TsZn at h ⊢
    obtain ⟨c, r, h1, h2, h3⟩ := h
    exact ⟨c, r, h1, TZn.upd hu hN h2, TsZn.upd hu hN h3⟩
end
theorem tZn_len {N : Nat → Prop} {w : World} {x : Tz} {cs : List Value} (h : TZn N w x cs) : cs.length = 6 := by
  cases x
  unfold TZn at h
  obtain ⟨_, _, _, _, rfl, _⟩ := h
  rfl
theorem tsZn_len {N : Nat → Prop} {w : World} : ∀ {l : List Tz} {css : List (List Value)}, TsZn N w l css → css.length = l.length ∧ css.flatten.length = l.length * 6
  | [], _, h => by unfold TsZn at h; subst h; exact ⟨rfl, rfl⟩
  | x :: l, _, h => by
    unfold TsZn at h
    obtain ⟨c, r, rfl, h2, h3⟩ := h
    have h4 := tsZn_len h3
    have h5 := tZn_len h2
    simp only [List.length_cons, List.flatten_cons, List.length_append]
    omega
mutual
theorem TZn.mono {N N' : Nat → Prop} {w : World} (hN : ∀ b, N b → b < w.heap.size → N' b) : ∀ {x : Tz} {cs : List Value}, TZn N w x cs → TZn N' w x cs
  | .mk _ _ _ _ ps l, _, h => by
    unfold TZn at h ⊢
    obtain ⟨A, cA, B, cB, h1, h2, h3, h4, h5, css, h6, h7, h8⟩ := h
    refine ⟨A, cA, B, cB, h1, h2, h3, h4, fun b o e hne => hN b (h5 b o e hne) ?_, css, h6, fun b o e hne => hN b (h7 b o e hne) ?_, TsZn.mono hN h8⟩
    · cases ps with
      | nil => exact absurd rfl hne
      | cons p ps =>
        obtain ⟨b', o', e', hb, _⟩ := h4.at_ (j := 0) (u := strV p) rfl
        rw [e] at e'; cases e'; exact hb
    · have hl := (tsZn_len h8).2
      cases l with
      | nil => exact absurd rfl hne
      | cons y l =>
        cases hc : css.flatten with
        | nil => rw [hc] at hl; simp at hl
        | cons u us =>
          obtain ⟨b', o', e', hb, _⟩ := h6.at_ (j := 0) (u := u) (by rw [hc]; rfl)
          rw [e] at e'; cases e'; exact hb
theorem TsZn.mono {N N' : Nat → Prop} {w : World} (hN : ∀ b, N b → b < w.heap.size → N' b) : ∀ {l : List Tz} {css : List (List Value)}, TsZn N w l css → TsZn N' w l css
  | [], _, h => by unfold TsZn at h ⊢; exact h
  | x :: l, _, h => by
    unfold TsZn at h ⊢
    obtain ⟨c, r, h1, h2, h3⟩ := h
    exact ⟨c, r, h1, TZn.mono hN h2, TsZn.mono hN h3⟩
end
/-- The i-th tree's cells among all. -/
theorem tsZn_at {N : Nat → Prop} {w : World} : ∀ {l : List Tz} {css : List (List Value)}, TsZn N w l css → ∀ (i : Nat) (x : Tz), l[i]? = some x → ∃ c, TZn N w x c ∧ ∀ j, j < 6 → css.flatten[i * 6 + j]? = c[j]?
  | [], _, _, i, x, hx => by simp at hx
  | y :: l, _, h, i, x, hx => by
    unfold TsZn at h
    obtain ⟨c, r, rfl, h2, h3⟩ := h
    have h5 := tZn_len h2
    cases i with
    | zero =>
      have : y = x := by simpa using hx
      subst this
      refine ⟨c, h2, fun j hj => ?_⟩
      rw [List.flatten_cons, List.getElem?_append_left (by omega)]
      congr 1
      omega
    | succ i =>
      obtain ⟨c', h6, h7⟩ := tsZn_at h3 i x (by simpa using hx)
      refine ⟨c', h6, fun j hj => ?_⟩
      rw [List.flatten_cons, List.getElem?_append_right (by omega), ← h7 j hj]
      congr 1
      omega
theorem tsZn_app {N : Nat → Prop} {w : World} : ∀ {l : List Tz} {css : List (List Value)} {l' : List Tz} {css' : List (List Value)}, TsZn N w l css → TsZn N w l' css' → TsZn N w (l ++ l') (css ++ css')
  | [], _, _, _, h, h' => by unfold TsZn at h; subst h; exact h'
  | x :: l, _, _, _, h, h' => by
    unfold TsZn at h
    obtain ⟨c, r, rfl, h2, h3⟩ := h
    show TsZn N w (x :: (l ++ _)) (c :: (r ++ _))
    unfold TsZn
    exact ⟨c, _, rfl, h2, tsZn_app h3 h'⟩
theorem tsZn_one {N : Nat → Prop} {w : World} {x : Tz} {c : List Value} (h : TZn N w x c) : TsZn N w [x] [c] := by
  unfold TsZn; exact ⟨c, [], rfl, h, by unfold TsZn; rfl⟩
theorem tZn_cells {N : Nat → Prop} {w : World} {x : Tz} {c : List Value} (h : TZn N w x c) : ∃ k a s n A la cA B lb cB, c = nzC k a s n A la cA B lb cB := by
  cases x
  unfold TZn at h
  obtain ⟨A, cA, B, cB, rfl, _⟩ := h
  exact ⟨_, _, _, _, _, _, _, _, _, _, rfl⟩
/-- A row of trees that the call owns, in block g; the trees' parts lie elsewhere. -/
structure ArrZ (e : TypeId) (lo : Nat) (w : World) (g c : Nat) (xs : List Tz) : Prop where
  ex : ∃ css, w.ownsRow lo e 6 (.slice (some ⟨g, 0, none⟩) xs.length c) xs.length css.flatten ∧ TsZn (fun b => lo ≤ b ∧ b ≠ g) w xs css
theorem ArrZ.upd {X : Nat → Prop} {e : TypeId} {lo : Nat} {w w' : World} {g c : Nat} {xs : List Tz} (h : ArrZ e lo w g c xs) (hu : Upd X w w') (hX : ∀ b, X b → b < lo) : ArrZ e lo w' g c xs := by
  obtain ⟨css, h1, h2⟩ := h
  have hg := own_at h1
  exact ⟨css, own_upd3 h1 hu fun hx => by have := hX g hx; omega, h2.upd hu fun b hb hx => by have := hX b hx; omega⟩
/-- A tree behind the others, as append lays it. -/
theorem ArrZ.push {e : TypeId} {lo : Nat} {w w2 w3 : World} {g c g' c' : Nat} {xs : List Tz} {x : Tz} {cs : List Value} {css : List (List Value)} (h2 : TsZn (fun b => lo ≤ b ∧ b ≠ g) w2 xs css)
    (hx : TZn (fun b => w.heap.size ≤ b) w2 x cs) (hg : g < w.heap.size) (hlo : lo ≤ w.heap.size) (h3 : w3.ownsRow lo e 6 (.slice (some ⟨g', 0, none⟩) (xs.length + 1) c') (xs.length + 1) (css.flatten ++ cs)) (h4 : w2.grownBy w3 (Value.slice (some ⟨g, 0, none⟩) xs.length c).ownBlock)
    (h5 : some g' = (Value.slice (some ⟨g, 0, none⟩) xs.length c).ownBlock ∨ g' = w2.heap.size) : ArrZ e lo w3 g' c' (xs ++ [x]) := by
  have hu : Upd (fun b => b = g) w2 w3 := (Upd.refl _ w2).grown h4 fun k hk _ => by cases hk; rfl
  have hg' : ∀ b, b ≠ g → b < w2.heap.size → b ≠ g' := fun b hb hs e => by
    rcases h5 with h5 | h5
    · cases h5; exact hb e
    · omega
  refine ⟨css ++ [cs], ?_, ?_⟩
  · rw [List.length_append, List.flatten_append]
    simpa using h3
  · have a1 : TsZn (fun b => lo ≤ b ∧ b ≠ g ∧ b ≠ g') w2 xs css := h2.mono fun b hb hs => ⟨hb.1, hb.2, hg' b hb.2 hs⟩
    have a2 : TsZn (fun b => lo ≤ b ∧ b ≠ g ∧ b ≠ g') w2 [x] [cs] := tsZn_one (hx.mono fun b hb hs => ⟨by omega, by omega, hg' b (by omega) hs⟩)
    refine ((tsZn_app a1 a2).upd hu fun b hb e => hb.2.1 e).mono fun b hb _ => ⟨hb.1, hb.2.2⟩
/-- A row of one tree. -/
theorem ArrZ.first {e : TypeId} {lo : Nat} {w1 : World} {x : Tz} {cs : List Value} (hT : TZn (fun b => lo ≤ b) w1 x cs) (hlo : lo ≤ w1.heap.size) : ArrZ e lo (w1.alloc (.cells cs.toArray e)) w1.heap.size 1 [x] := by
  refine ⟨[cs], ?_, ?_⟩
  · have := own_full w1 hlo e 6 1 cs (by rw [tZn_len hT]) (by decide)
    simpa using this
  · exact (tsZn_one (hT.mono (N' := fun b => lo ≤ b ∧ b ≠ w1.heap.size) fun b hb hs => ⟨hb, by omega⟩)).upd ((Upd.refl (fun _ => False) w1).alloc _) (fun _ _ h => h)
/-- A call has read a tree, and append has laid it behind the others. -/
theorem arz_step {e : TypeId} {lo bp : Nat} {wr w1 w8 : World} {g c g8 c8 : Nat} {xs : List Tz} {css : List (List Value)} {x : Tz} {cs : List Value} (how : wr.ownsRow lo e 6 (.slice (some ⟨g, 0, none⟩) xs.length c) xs.length css.flatten) (hts : TsZn (fun b => lo ≤ b ∧ b ≠ g) wr xs css) (hlt : bp < lo)
    (hU : Upd (fun b => b = bp) wr w1) (hT : TZn (fun b => wr.heap.size ≤ b) w1 x cs) (hE : AppE lo e 6 (w1.alloc (.cells cs.toArray e)) (.slice (some ⟨g, 0, none⟩) xs.length c) xs.length 1 (css.flatten ++ cs) g8 c8 w8) :
    ArrZ e lo w8 g8 c8 (xs ++ [x]) ∧ (∀ w, w.heap.size ≤ lo → Upd (fun b => b = bp) w wr → Upd (fun b => b = bp) w w8) ∧ Upd (fun b => b = g) w1 w8 := by
  have hg := own_at how
  have ha : Upd (fun _ => False) w1 (w1.alloc (.cells cs.toArray e)) := (Upd.refl _ w1).alloc _
  refine ⟨ArrZ.push (w := wr) ((hts.upd hU fun b hb e => by omega).upd ha fun _ _ h => h) (hT.upd ha fun _ _ h => h) hg.2 (by omega) hE.own hE.grown hE.at_, fun w hw hu => ?_, ?_⟩
  · exact ((hu.trans hU).alloc _).grown hE.grown fun k hk hs => by
      cases hk
      exact absurd hs (by show ¬ g < w.heap.size; omega)
  · exact ((Upd.refl (fun b => b = g) w1).alloc _).grown hE.grown fun k hk _ => by cases hk; rfl
/-- A node over a row. -/
theorem ArrZ.node {e : TypeId} {lo : Nat} {w : World} {g c : Nat} {xs : List Tz} (h : ArrZ e lo w g c xs) (hl : xs.length ≤ maxLen) (k a : Int) (n : Nat) (s : Bs) : TZn (fun b => lo ≤ b) w (.mk k a s n [] xs) (nzC k a s n (some ⟨g, 0, none⟩) xs.length c none 0 0) := by
  obtain ⟨css, h1, h2⟩ := h
  unfold TZn
  refine ⟨_, _, none, 0, rfl, hl, by simp, Lies.nil _ _, fun b o e => (by cases e), css, ?_, fun b o e _ => ?_, h2.mono fun b hb _ => hb.1⟩
  · rcases h1.2 with ⟨h, _⟩ | ⟨g', cap, cur, h, _⟩
    · cases h
    · exact fun j u hj => ⟨_, rfl, h1.cells (g := g) rfl j u hj⟩
  · cases e; exact (own_at h1).1
theorem tZn_leaf {N : Nat → Prop} (w : World) (k a : Int) (n : Nat) (s : Bs) : TZn N w (.mk k a s n [] []) (nzC k a s n none 0 0 none 0 0) := by
  unfold TZn
  exact ⟨none, 0, none, 0, rfl, by simp, by simp, Lies.nil _ _, fun b o e => (by cases e), [], Lies.nil _ _, fun b o e => (by cases e), by unfold TsZn; rfl⟩
mutual
theorem tZn_z {N : Nat → Prop} {w : World} : ∀ {x : Tz} {cs : List Value}, TZn N w x cs → TIz w x cs
  | .mk k a s n ps l, cs, h => by
    unfold TZn at h
    unfold TIc
    obtain ⟨A, cA, B, cB, h1, h2, h3, h4, _, css, h6, _, h8⟩ := h
    exact ⟨A, cA, B, cB, h1, h2, h3, h4, css, h6, tsZn_z h8, fun h => h.elim⟩
theorem tsZn_z {N : Nat → Prop} {w : World} : ∀ {l : List Tz} {css : List (List Value)}, TsZn N w l css → TsIz w l css
  | [], _, h => by unfold TsZn at h; unfold TsIc; exact h
  | x :: l, _, h => by
    unfold TsZn at h
    unfold TsIc
    obtain ⟨c, r, h1, h2, h3⟩ := h
    exact ⟨c, r, h1, tZn_z h2, tsZn_z h3⟩
end
end Go.Proofs.YtokfmclbninkmaaGreatDoor.Sh
/- DERIVED. The reference's Own: a tree of one's own. By an AI agent. -/
namespace Go.Proofs.YtokfmclbninkmaaGreatDoor.HT
open Go
variable {P : Program} {ops : Array Oper} {Q : Exit → Act → World → Prop} {md : Region.Mode} {Z S : World → Prop} {st : List Nat}
/-- One of two operations may come up. -/
theorem two {i j : Nat} {oi oj : Oper} {f : Nat} {listed : Array Bool} {a : Act} {w : World} (hr : Region.ready md ops listed = [i, j]) (hi : ops[i]? = some oi) (hj : ops[j]? = some oj)
    (h1 : ∀ K : Act → World → Prop, Shut (∀ a' w', Z w' → S w' → anyT P md ops Q Z S st f (listed.setIfInBounds i true) a' w' → K a' w') → if Region.wanted oi (yielded ops a.tmps) = true then Oper.wp P oi a w K Q else K (a.put oi.dst undef) w)
    (h2 : ∀ K : Act → World → Prop, Shut (∀ a' w', Z w' → S w' → anyT P md ops Q Z S st f (listed.setIfInBounds j true) a' w' → K a' w') → if Region.wanted oj (yielded ops a.tmps) = true then Oper.wp P oj a w K Q else K (a.put oj.dst undef) w) : anyT P md ops Q Z S st (f + 1) listed a w :=
  ⟨fun h0 => by rw [hr] at h0; (cases h0), fun k hk => by
    rw [hr] at hk
    rcases List.mem_cons.1 hk with rfl | hk
    · exact wpOp_step hi fun K hK => h1 K fun a' w' hZ hS hW => hK a' w' ⟨⟨hZ, fun _ => hS⟩, hW⟩
    · obtain rfl := List.mem_singleton.1 hk
      exact wpOp_step hj fun K hK => h2 K fun a' w' hZ hS hW => hK a' w' ⟨⟨hZ, fun _ => hS⟩, hW⟩⟩
/-- append of nothing to an empty slice. -/
theorem run_app0 {P : Program} (w : World) (t ty e : TypeId) (i : TypeInfo) (ht : P.underlying t = some (.slice e)) (hi : P.info? e = some i) (g : Addr) (B : Option Addr) (cB : Nat) :
    (Builtin.append_ #[t, t] ty #[.slice (some g) 0 0, .slice B 0 cB]).run P w = .ok (.slice (some g) 0 0) w := by
  have hf : (Builtin.firstCells i.size 0 (.slice B 0 cB)).run P w = .ok #[] w := by
    cases B with
    | none => exact run_firstCells_none _ _ _ _ _
    | some a => exact run_firstCells_some (P := P) w i.size 0 a 0 cB [] (by simp) (by simp)
  simp [Builtin.append_, run_underlying ht, sizeOf, typeInfo, hi, Builtin.lenOf, hf, storeCells]
theorem step_app0 {P : Program} {ops : Array Oper} {o : Oper} {a : Act} {w : World} {K : Act → World → Prop} {Q : Exit → Act → World → Prop} {E : Prop} (hg : o.guard = none) (s x : Operand) (t : TypeId)
    (hop : o.op = .call { callee := .builtin .append, args := #[s, x], argTypes := #[t, t] }) (e : TypeId) (i : TypeInfo) (ht : P.underlying t = some (.slice e)) (hi : P.info? e = some i) (g : Addr) (B : Option Addr) (cB : Nat)
    (hs : a.eval s = .slice (some g) 0 0) (hx : a.eval x = .slice B 0 cB) (hK : K (a.put o.dst (.slice (some g) 0 0)) w) : if Region.wanted o (yielded ops a.tmps) = true then Oper.wp P o a w K Q else E := by
  have hw : Region.wanted o (yielded ops a.tmps) = true := by simp [Region.wanted, hg]
  rw [if_pos hw]
  unfold Oper.wp
  simp [execOp, hop, resolve, invoke, builtin, hs, hx, run_app0 (P := P) w t o.type e i ht hi g B cB, Result.andThen]
  exact hK
end Go.Proofs.YtokfmclbninkmaaGreatDoor.HT
namespace Go.Proofs.YtokfmclbninkmaaGreatDoor.Sw
open Go Go.ChangeShapes Go.WideShapes Go.ChangeAt Go.RowKit Lx Args Pa Sh Wr Rt Pq
set_option linter.unusedVariables false
set_option linter.unusedSimpArgs false
mutual
/-- The tree without its places. -/
def owz : Tz → Tz
  | .mk k a s n ps l => .mk k 0 s n ps (owzs l)
def owzs : List Tz → List Tz
  | [] => []
  | x :: l => owz x :: owzs l
end
mutual
/-- Its slices fit. -/
def fz : Tz → Prop
  | .mk k a s n ps l => ps.length * 16 ≤ 140737488351232 ∧ l.length * 88 ≤ 140737488351232 ∧ fzs l
def fzs : List Tz → Prop
  | [] => True
  | x :: l => fz x ∧ fzs l
end
theorem owzs_len : ∀ (l : List Tz), (owzs l).length = l.length
  | [] => rfl
  | x :: l => by unfold owzs; rw [List.length_cons, List.length_cons, owzs_len l]
theorem owzs_take : ∀ (l : List Tz) (i : Nat) (x : Tz), l[i]? = some x → owzs (l.take (i + 1)) = owzs (l.take i) ++ [owz x]
  | [], i, x, h => by simp at h
  | y :: l, 0, x, h => by
    obtain rfl : y = x := by simpa using h
    simp [owzs]
  | y :: l, i + 1, x, h => by
    have := owzs_take l i x (by simpa using h)
    simp [owzs, this]
theorem fzs_at : ∀ {l : List Tz}, fzs l → ∀ {i : Nat} {x : Tz}, l[i]? = some x → fz x
  | [], _, i, x, h => by simp at h
  | y :: l, hf, 0, x, h => by
    unfold fzs at hf
    obtain rfl : y = x := by simpa using h
    exact hf.1
  | y :: l, hf, i + 1, x, h => by
    unfold fzs at hf
    exact fzs_at hf.2 (i := i) (by simpa using h)
mutual
theorem owz_same : ∀ (z : Tz), sameB z (owz z) = true
  | .mk k a s n ps l => by
    unfold owz sameB
    rw [owzs_same l]
    simp
theorem owzs_same : ∀ (l : List Tz), sameBs l (owzs l) = true
  | [] => by unfold owzs sameBs; rfl
  | x :: l => by
    unfold owzs sameBs
    rw [owz_same x, owzs_same l]
    rfl
end
/-- The reference's Own, of trees smaller than m. -/
def OwR (m : Nat) : Prop := ∀ (z : Tz), SizeOf.sizeOf z < m → fz z → ∀ (w : World) (k a : Int) (s : Bs) (n : Nat) (A : Option Addr) (la cA : Nat) (B : Option Addr) (lb cB : Nat), TIz w z (nzC k a s n A la cA B lb cB) →
  Calls Tryz.prog 14 #[nzA k a s n A la cA B lb cB] w fun e w' => ∃ A' la' cA' B' lb' cB', e = .returned (nzA k 0 s n A' la' cA' B' lb' cB') ∧ TZn (fun b => w.heap.size ≤ b) w' (owz z) (nzC k 0 s n A' la' cA' B' lb' cB') ∧ Below w.heap.size w w'
/-- A row of trees that the call owns, or nothing yet; the trees' parts lie elsewhere. -/
def ArrY (e : TypeId) (lo : Nat) (w : World) (v : Value) (xs : List Tz) : Prop := ∃ css, w.ownsRow lo e 6 v xs.length css.flatten ∧ TsZn (fun b => lo ≤ b ∧ v.ownBlock ≠ some b) w xs css
theorem ArrY.nil (e : TypeId) (lo : Nat) (w : World) : ArrY e lo w (.slice none 0 0) [] := ⟨[], World.ownsRow_nil _ _ _ _, by unfold TsZn; rfl⟩
theorem ArrY.upd {X : Nat → Prop} {e : TypeId} {lo : Nat} {w w' : World} {v : Value} {xs : List Tz} (h : ArrY e lo w v xs) (hu : Upd X w w') (hX : ∀ b, X b → b < lo) : ArrY e lo w' v xs := by
  obtain ⟨css, h1, h2⟩ := h
  exact ⟨css, own_updV h1 hu fun g hg hx => by have := own_atV h1 g hg; have := hX g hx; omega, h2.upd hu fun b hb hx => by have := hX b hx; omega⟩
theorem ay_step {e : TypeId} {lo : Nat} {wr w1 w8 : World} {v : Value} {g8 c8 : Nat} {xs : List Tz} {css : List (List Value)} {x : Tz} {cs : List Value} (how : wr.ownsRow lo e 6 v xs.length css.flatten) (hts : TsZn (fun b => lo ≤ b ∧ v.ownBlock ≠ some b) wr xs css) (hlo : lo ≤ wr.heap.size)
    (hU : Upd (fun _ => False) wr w1) (hT : TZn (fun b => wr.heap.size ≤ b) w1 x cs) (hE : AppE lo e 6 (w1.alloc (.cells cs.toArray e)) v xs.length 1 (css.flatten ++ cs) g8 c8 w8) :
    ArrY e lo w8 (.slice (some ⟨g8, 0, none⟩) (xs.length + 1) c8) (xs ++ [x]) := by
  have ha : Upd (fun _ => False) w1 (w1.alloc (.cells cs.toArray e)) := (Upd.refl _ w1).alloc _
  have hg : Upd (fun b => v.ownBlock = some b) (w1.alloc (.cells cs.toArray e)) w8 := (Upd.refl (fun b => v.ownBlock = some b) _).grown hE.grown fun k hk _ => hk
  have hsz := hU.size
  have hne : ∀ b, v.ownBlock ≠ some b → b < (w1.alloc (.cells cs.toArray e)).heap.size → b ≠ g8 := fun b hb hs h => by
    rcases hE.at_ with h5 | h5
    · rw [h] at hb; exact hb h5.symm
    · omega
  have a1 : TsZn (fun b => lo ≤ b ∧ v.ownBlock ≠ some b ∧ b ≠ g8) (w1.alloc (.cells cs.toArray e)) xs css := ((hts.upd hU fun b hb e => e).upd ha fun _ _ h => h).mono fun b hb hs => ⟨hb.1, hb.2, hne b hb.2 hs⟩
  have a2 : TsZn (fun b => lo ≤ b ∧ v.ownBlock ≠ some b ∧ b ≠ g8) (w1.alloc (.cells cs.toArray e)) [x] [cs] := tsZn_one ((hT.upd ha fun _ _ h => h).mono fun b hb hs => by
    have h1 : v.ownBlock ≠ some b := fun h => by have := own_atV how b h; omega
    exact ⟨by omega, h1, hne b h1 hs⟩)
  refine ⟨css ++ [cs], ?_, ((tsZn_app a1 a2).upd hg fun b hb h => hb.2.1 h).mono fun b hb _ => ⟨hb.1, fun h => hb.2.2 (by cases h; rfl)⟩⟩
  rw [List.length_append, List.flatten_append]
  simpa using hE.own
/-- A node over a row and over names. -/
theorem ArrY.node {e : TypeId} {lo lo' : Nat} {w : World} {A : Option Addr} {c g1 c1 : Nat} {xs : List Tz} {ps : List Bs} (h : ArrY e lo w (.slice A xs.length c) xs) (hlo : lo' ≤ lo) (hl : xs.length ≤ maxLen) (hp : ps.length ≤ maxLen) (hN : Lies w (some ⟨g1, 0, none⟩) (ps.map strV)) (hg : lo' ≤ g1) (k a : Int) (n : Nat) (s : Bs) :
    TZn (fun b => lo' ≤ b) w (.mk k a s n ps xs) (nzC k a s n A xs.length c (some ⟨g1, 0, none⟩) ps.length c1) := by
  obtain ⟨css, h1, h2⟩ := h
  unfold TZn
  refine ⟨_, _, _, _, rfl, hl, hp, hN, fun b o e _ => by cases e; exact hg, css, ?_, fun b o e hne => ?_, h2.mono fun b hb _ => by omega⟩
  · rcases h1.2 with ⟨h, h0⟩ | ⟨g', cap, cur, h, _⟩
    · have : xs = [] := List.eq_nil_of_length_eq_zero h0
      subst this
      unfold TsZn at h2
      subst h2
      exact Lies.nil _ _
    · cases h
      exact fun j u hj => ⟨_, rfl, h1.cells (g := g') rfl j u hj⟩
  · subst e
    rcases h1.2 with ⟨h, h0⟩ | ⟨g', cap, cur, h, hb, _⟩
    · cases h
    · cases h; omega
set_option maxRecDepth 100000 in
set_option maxHeartbeats 4000000 in
theorem ow_n {m : Nat} (H : OwR m) (w : World) (k a : Int) (s : Bs) (n : Nat) (A : Option Addr) (l : List Tz) (cA : Nat) (B : Option Addr) (cB : Nat) (ps : List Bs) (css : List (List Value)) (hL : Lies w A css.flatten) (hS : TsIz w l css) (hl : l.length ≤ maxLen)
    (hp : ps.length * 16 ≤ 140737488351232) (hl2 : l.length * 88 ≤ 140737488351232) (hf : fzs l) (hm : ∀ (i : Nat) (x : Tz), l[i]? = some x → SizeOf.sizeOf x < m) (hB : Lies w B (ps.map strV)) :
    Calls Tryz.prog 14 #[nzA k a s n A l.length cA B ps.length cB] w fun e w' => ∃ A' la' cA' B' lb' cB', e = .returned (nzA k 0 s n A' la' cA' B' lb' cB') ∧ TZn (fun b => w.heap.size ≤ b) w' (.mk k 0 s n ps (owzs l)) (nzC k 0 s n A' la' cA' B' lb' cB') ∧ Below w.heap.size w w' := by
  obtain ⟨i0, hi, hz⟩ := Option.map_eq_some_iff.1 infoNd
  have hz0 := congrArg (·.1) hz; have hz1 := congrArg (·.2.1) hz; have hz2 := congrArg (·.2.2) hz
  have HI := Lib.hid hi; have HZ0 := Lib.hid hz0; have HZ1 := Lib.hid hz1; have HZ2 := Lib.hid hz2
  clear hi hz hz0 hz1 hz2
  obtain ⟨j0, hj, hy⟩ := Option.map_eq_some_iff.1 infoSt
  have hy0 := congrArg (·.1) hy; have hy1 := congrArg (·.2.1) hy; have hy2 := congrArg (·.2.2) hy
  have HJ := Lib.hid hj; have HJ0 := Lib.hid hy0; have HJ1 := Lib.hid hy1; have HJ2 := Lib.hid hy2
  clear hj hy hy0 hy1 hy2
  obtain ⟨w1, hw1, hb1, hX1⟩ := a_box w (nB k a s n A l.length cA B ps.length cB)
  obtain ⟨w2, hw2, hb2, hX2⟩ := zero_box w1
  have hs1 : w1.heap.size = w.heap.size + 1 := by rw [← hw1]; simp
  have hs2 := hX2.lt
  rw [hs1] at hX2 hs2
  have hlm : l.length ≤ 9223372036854775807 := hl
  have hpm : ps.length ≤ maxLen := by unfold maxLen; omega
  have HX := Lib.hid (hX1.below hb2 hX1.lt); have HY := Lib.hid hX2; have HB2 := Lib.hid (hb1.trans (hb2.mono hb1.size)); have HW1 := Lib.hid hw1; have HW2 := Lib.hid hw2
  have HL := Lib.hid hL; have HS := Lib.hid hS; have HM := Lib.hid hm; have HF := Lib.hid hf; have HN := Lib.hid hB
  clear hw1 hw2 hb1 hb2 hX1 hX2 hL hS hm hf hB hl
  go_enter Tryz.func14, Tryz.ntmps14
  go_wp2_with fail
  rw [HW1.out, HW2.out]
  rename_i Q0 K0 hK0
  have HREST : ∀ (g3 g1 c1 : Nat) (u6 u7 u8 u9 u10 u11 u12 u13 u14 u15 u16 : Value) (wz : World), w2.heap.size ≤ g3 → w2.heap.size ≤ g1 → g3 ≠ g1 → g1 < wz.heap.size →
      Blk wz g3 26 #[.int .i64 k, .string ⟨s.toArray⟩, .int .u32 (n : Int), .int .i64 0, .slice none 0 0, .slice (some ⟨g1, 0, none⟩) ps.length c1] → Lies wz (some ⟨g1, 0, none⟩) (ps.map strV) → Below w2.heap.size w2 wz →
      K0 ⟨#[nzA k a s n A l.length cA B ps.length cB, .pointer (some ⟨w.heap.size, 0, none⟩), .pointer (some ⟨w.heap.size + 1, 0, none⟩), .pointer (some ⟨g3, 0, none⟩), undef, undef, u6, u7, u8, u9, u10, u11, u12, u13, u14, u15, u16, undef, undef, undef, undef, undef, undef, undef, undef, undef, undef, undef, undef, undef, undef, undef, undef, undef, undef, undef, undef], []⟩ wz := by
    intro g3 g1 c1 u6 u7 u8 u9 u10 u11 u12 u13 u14 u15 u16 wz h3 h1 hne hg1 hbx hnm hbz
    refine hK0 _ _ ?_
    have hg3 := hbx.lt
    have HBX := Lib.hid hbx; have HNM := Lib.hid hnm; have HBZ := Lib.hid hbz
    clear hK0 hbx hnm hbz
    go_wp2_with fail
    go_loopw [4] (fun vi wr => ∃ (i : Nat) (A' : Option Addr) (c' : Nat), i ≤ l.length ∧ vi = .int .i64 (i : Int) ∧ Hid (Blk wr g3 26 #[.int .i64 k, .string ⟨s.toArray⟩, .int .u32 (n : Int), .int .i64 0, .slice A' i c', .slice (some ⟨g1, 0, none⟩) ps.length c1]) ∧ Hid (ArrY 26 wz.heap.size wr (.slice A' i c') (owzs (l.take i))) ∧ Hid (Upd (fun b => b = g3) wz wr)) (fun vi _ => l.length - (intOf vi).toNat)
    case atStart => exact ⟨0, none, 0, by omega, rfl, HBX, Lib.hid (by simpa [owzs] using ArrY.nil _ _ _), Lib.hid (Upd.refl _ _)⟩
    case round =>
      obtain ⟨i, A', c', hi, rfl, HBr, HAr, HUr⟩ := hrel
      have hB2r : Below w2.heap.size w2 wr := ((Upd.of_below HBZ.out (fun b => b = g3)).trans HUr.out).below (Nat.le_refl _) fun k hk => by omega
      have hbr : Below w.heap.size w wr := HB2.out.trans (hB2r.mono HB2.out.size)
      have hxr := HX.out.below hB2r HX.out.lt
      have hur := HUr.out.size
      obtain ⟨⟨e0, e1, e2, e3, e4, e5⟩, z0, z1, z2, z3, z4, z5⟩ := Blk.c6 hxr
      have hxlr := hxr.lt
      by_cases hlt : i < l.length
      · obtain ⟨x, hx⟩ : ∃ x, l[i]? = some x := ⟨_, List.getElem?_eq_getElem hlt⟩
        obtain ⟨b2, o2, k3, a3, s3, n3, A3, la3, cA3, B3, lb3, cB3, rfl, hTx, hb3, g0, g1', g2, g3', g4, g5⟩ := partz_at (HL.out.below hbr) (TsIz.below hbr HS.out) hx
        have HC := Lib.hid (H x (HM.out i x hx) (fzs_at HF.out hx) wr k3 a3 s3 n3 A3 la3 cA3 B3 lb3 cB3 hTx)
        have HTK := Lib.hid (owzs_take l i x hx)
        have hlen : (owzs (l.take i)).length = i := by rw [owzs_len, List.length_take]; omega
        have HLN := Lib.hid hlen
        have HB2R := Lib.hid hB2r
        clear hTx hx hxr hB2r hbr
        go_wp2_with fail
        refine HC.out.mono ?_
        rintro e w3 ⟨A2, la2, cA2, B2, lb2, cB2, rfl, hT3, hb3'⟩
        obtain ⟨we, hwe⟩ : ∃ we, w3.alloc (.cells #[.int .i64 k3, .string ⟨s3.toArray⟩, .int .u32 (n3 : Int), .int .i64 0, .slice A2 la2 cA2, .slice B2 lb2 cB2] 26) = we := ⟨_, rfl⟩
        have hbe : Below w3.heap.size w3 we := by rw [← hwe]; exact (Below.refl _ _).alloc (Nat.le_refl _) _
        have hse : we.heap.size = w3.heap.size + 1 := by rw [← hwe]; simp
        have hr3 := hb3'.size
        have hre : Below wr.heap.size wr we := hb3'.trans (hbe.mono hb3'.size)
        have hure : Upd (fun _ => False) wr we := Upd.of_below hre _
        obtain ⟨css', how, hts⟩ := HAr.out
        have hgg := own_atV how
        rw [hlen] at how
        have how' := own_updV how hure fun g hg hx => hx
        have HOA := Lib.hid (World.ownsRow.alloc how' (.cells #[.int .i64 k3, .string ⟨s3.toArray⟩, .int .u32 (n3 : Int), .int .i64 0, .slice A2 la2 cA2, .slice B2 lb2 cB2] 26))
        have HLI := Lib.hid (lies_full we 26 (nzC k3 0 s3 n3 A2 la2 cA2 B2 lb2 cB2))
        have HBS := Lib.hid (show wz.heap.size ≤ (we.alloc (.cells #[.int .i64 k3, .string ⟨s3.toArray⟩, .int .u32 (n3 : Int), .int .i64 0, .slice A2 la2 cA2, .slice B2 lb2 cB2] 26)).heap.size by simp; omega)
        have hboe := HBr.out.below hre HBr.out.lt
        have hbod := HBr.out.below hb3' HBr.out.lt
        clear e0 e1 e2 e3 e4 e5 z0 z1 z2 z3 z4 z5
        obtain ⟨⟨e0, e1, e2, e3, e4, e5⟩, y0, y1, y2, y3, y4, y5⟩ := Blk.c6 hbod
        have hboel := hbod.lt
        clear hbod
        have HOW := Lib.hid how; have HTS := Lib.hid hts; have HURE := Lib.hid hure; have HBE := Lib.hid hbe; have HWE := Lib.hid hwe; have HSE := Lib.hid hse; have HBOE := Lib.hid hboe; have HGG := Lib.hid hgg; have HT3 := Lib.hid hT3
        clear how how' hts hure hbe hwe hboe hgg hre hT3 hb3'
        rw [hse] at HLI
        go_wp2_with (at_builtin; rw [HWE.out]; refine wpList_where rfl _ _ 23 rfl wz.heap.size 26 i0 (.agg zNd) 6 88 Tryz.underlying23 HI.out HZ0.out HZ1.out HZ2.out rfl (by decide) _ i _ rfl HOA.out ⟨w3.heap.size + 1, 0, none⟩ 1 1 (nzC k3 0 s3 n3 A2 la2 cA2 B2 lb2 cB2) rfl rfl HLI.out (by simp [nzC, Value.oneCell']) (by unfold maxLen; omega) (by omega) HBS.out (by decide) ?_; intro g8 c8 w8' hE; have HE8 := Lib.hid hE; have hbo8 := bo_after hE HBOE.out (fun g hg => by have := HGG.out g hg; omega); clear hE e0 e1 e2 e3 e4 e5 y0 y1 y2 y3 y4 y5; obtain ⟨⟨e0, e1, e2, e3, e4, e5⟩, y0, y1, y2, y3, y4, y5⟩ := Blk.c6 hbo8; have hbo8l := hbo8.lt; have HBO8 := Lib.hid hbo8; clear hbo8)
        have hu8 : Upd (fun b => (Value.slice A' i c').ownBlock = some b) we w8' := ((Upd.refl (fun b => (Value.slice A' i c').ownBlock = some b) we).alloc _).grown HE8.out.grown fun k hk _ => hk
        have HBO9 := Lib.hid (show Blk (w8'.setCell ⟨g3, 4, none⟩ (.slice (some ⟨g8, 0, none⟩) (i + 1) c8)) g3 26 #[.int .i64 k, .string ⟨s.toArray⟩, .int .u32 (n : Int), .int .i64 0, .slice (some ⟨g8, 0, none⟩) (i + 1) c8, .slice (some ⟨g1, 0, none⟩) ps.length c1] from HBO8.out.set 4 _)
        have hu9 : Upd (fun b => b = g3) w8' (w8'.setCell ⟨g3, 4, none⟩ (.slice (some ⟨g8, 0, none⟩) (i + 1) c8)) := (Upd.refl (fun b => b = g3) w8').setCell (fun _ => rfl) _
        have hu10 : Upd (fun b => b = g3) wz (w8'.setCell ⟨g3, 4, none⟩ (.slice (some ⟨g8, 0, none⟩) (i + 1) c8)) := ((((HUr.out.trans (HURE.out.mono fun k h => h.elim)).alloc (.cells #[.int .i64 k3, .string ⟨s3.toArray⟩, .int .u32 (n3 : Int), .int .i64 0, .slice A2 la2 cA2, .slice B2 lb2 cB2] 26)).grown HE8.out.grown fun k hk hs => by have := HGG.out _ hk; omega)).setCell (fun _ => rfl) _
        have hTe : TZn (fun b => wr.heap.size ≤ b) we (owz x) (nzC k3 0 s3 n3 A2 la2 cA2 B2 lb2 cB2) := HT3.out.upd (Upd.of_below HBE.out fun _ => False) (fun _ _ h => h)
        have hst := ay_step (xs := owzs (l.take i)) (v := .slice A' i c') (by rw [HLN.out]; exact HOW.out) HTS.out (by omega) HURE.out hTe (by rw [HLN.out]; exact HE8.out)
        rw [HLN.out, ← HTK.out] at hst
        have HAR9 := Lib.hid (hst.upd hu9 fun b hb => by omega); have HU10 := Lib.hid hu10
        clear hu8 hu9 hu10 hTe hst
        go_roundw
        case rel => exact ⟨i + 1, some ⟨g8, 0, none⟩, c8, by omega, by go_num, HBO9, HAR9, HU10⟩
        case measure => simp [intOf]; omega
      · obtain rfl : i = l.length := by omega
        have hyr := HY.out.below hB2r HY.out.lt
        obtain ⟨⟨f0, f1, f2, f3, f4, f5⟩, y0, y1, y2, y3, y4, y5⟩ := Blk.c6 hyr
        have hylr := hyr.lt
        obtain ⟨⟨j0, j1, j2, j3, j4, j5⟩, x0, x1, x2, x3, x4, x5⟩ := Blk.c6 HBr.out
        have hNr : Lies wr (some ⟨g1, 0, none⟩) (ps.map strV) := HUr.out.lies HNM.out fun b o e _ => by cases e; omega
        have hnode : TZn (fun b => w2.heap.size ≤ b) wr (.mk k 0 s n ps (owzs l)) (nzC k 0 s n A' (owzs l).length c' (some ⟨g1, 0, none⟩) ps.length c1) := by
          have := HAr.out
          rw [List.take_length] at this
          refine ArrY.node (lo := wz.heap.size) (by rw [owzs_len]; exact this) (by omega) (by rw [owzs_len]; exact hlm) hpm hNr h1 k 0 n s
        rw [owzs_len] at hnode
        have hu : Upd (fun b => b = w.heap.size + 1) wr _ := put6_upd (X := fun b => b = w.heap.size + 1) (Upd.refl _ wr) (fun _ => rfl) (.int .i64 k) (.string ⟨s.toArray⟩) (.int .u32 (n : Int)) (.int .i64 0) (.slice A' l.length c') (.slice (some ⟨g1, 0, none⟩) ps.length c1)
        have HEND := Lib.hid (TZn.mono (N' := fun b => w.heap.size ≤ b) (fun b hb _ => by omega) (hnode.upd hu fun b hb h => by omega))
        have HBE := Lib.hid (((Upd.of_below hbr (fun b => b = w.heap.size + 1)).trans hu).below (B := w.heap.size) (Nat.le_refl _) fun k hk => by omega)
        have HYR := Lib.hid hyr
        clear hnode hu hyr hNr hxr hbr hB2r
        go_wp2_with fail
        exact bodyPost_ret (resNd rfl rfl (Blk.put6 HYR.out _ _ _ _ _ _) rfl) rfl ⟨_, _, _, _, _, _, rfl, HEND.out, HBE.out⟩
  have HR := Lib.hid HREST
  clear HREST hK0
  have hdr : Below w2.heap.size w2 w2.drew := Below.drew (Below.refl _ _)
  have hZ0 : Blk w2.drew w.heap.size 26 (nB k a s n A l.length cA B ps.length cB) := HX.out.below hdr HX.out.lt
  have hNN : ∀ W, Below w2.heap.size w2 W → Lies W B (ps.map strV) := fun W h => HN.out.below (HB2.out.trans (h.mono HB2.out.size))
  have HNN := Lib.hid hNN
  clear hNN
  have hPS : ps = [] ∨ ∃ b o, B = some ⟨b, o, none⟩ ∧ 0 < ps.length := by
    cases ps with
    | nil => exact .inl rfl
    | cons p r =>
      obtain ⟨b, o, h, _⟩ := HN.out.at_ (j := 0) (u := strV p) rfl
      exact .inr ⟨b, o, h, by simp⟩
  obtain ⟨wc, hwc⟩ : ∃ wc, w2.drew = wc := ⟨_, rfl⟩
  have hdwc := hdr
  have hzwc := hZ0
  rw [hwc] at hdwc hzwc
  have hsc := hdwc.size
  refine HT.wp_region (Z := fun w' => Blk w' w.heap.size 26 (nB k a s n A l.length cA B ps.length cB)) (S := fun _ => True) (st := []) (by kernel_rfl) ?_
  rw [hwc]
  clear hdr hZ0 hwc HL HS HM HF HY HX HW1 HW2 HI HZ0 HZ1 HZ2 H
  rcases hPS with rfl | ⟨b, o, rfl, hp0⟩
  · refine HT.takeP (i := 0) (v := ?_) rfl (by kernel_rfl) (by kernel_rfl) (by kernel_rfl) (by kernel_rfl) (fun _ _ _ h => h) (Or.inl ⟨by rfl, ?_⟩) hzwc (fun _ => trivial) ?_
    rotate_left
    · (intro w hSw; have q0 := Blk.cell hSw 0; have q1 := Blk.cell hSw 1; have q2 := Blk.cell hSw 2; have q5 := Blk.cell hSw 5; clear hSw; go_simp; try with_reducible rfl)
    (try simp only [Act.put, List.getElem_toArray, List.getElem_cons_succ, List.getElem_cons_zero, List.setIfInBounds_toArray, List.set_cons_zero, List.set_cons_succ])
    refine HT.takeP (i := 1) (v := ?_) rfl (by kernel_rfl) (by kernel_rfl) (by kernel_rfl) (by kernel_rfl) (fun _ _ _ h => h) (Or.inl ⟨by rfl, ?_⟩) hzwc (fun _ => trivial) ?_
    rotate_left
    · (intro w hSw; have q0 := Blk.cell hSw 0; have q1 := Blk.cell hSw 1; have q2 := Blk.cell hSw 2; have q5 := Blk.cell hSw 5; clear hSw; go_simp; try with_reducible rfl)
    (try simp only [Act.put, List.getElem_toArray, List.getElem_cons_succ, List.getElem_cons_zero, List.setIfInBounds_toArray, List.set_cons_zero, List.set_cons_succ])
    refine HT.takeP (i := 2) (v := ?_) rfl (by kernel_rfl) (by kernel_rfl) (by kernel_rfl) (by kernel_rfl) (fun _ _ _ h => h) (Or.inl ⟨by rfl, ?_⟩) hzwc (fun _ => trivial) ?_
    rotate_left
    · (intro w hSw; have q0 := Blk.cell hSw 0; have q1 := Blk.cell hSw 1; have q2 := Blk.cell hSw 2; have q5 := Blk.cell hSw 5; clear hSw; go_simp; try with_reducible rfl)
    (try simp only [Act.put, List.getElem_toArray, List.getElem_cons_succ, List.getElem_cons_zero, List.setIfInBounds_toArray, List.set_cons_zero, List.set_cons_succ])
    refine HT.takeP (i := 3) (v := ?_) rfl (by kernel_rfl) (by kernel_rfl) (by kernel_rfl) (by kernel_rfl) (fun _ _ _ h => h) (Or.inl ⟨by rfl, ?_⟩) hzwc (fun _ => trivial) ?_
    rotate_left
    · (intro w hSw; have q0 := Blk.cell hSw 0; have q1 := Blk.cell hSw 1; have q2 := Blk.cell hSw 2; have q5 := Blk.cell hSw 5; clear hSw; go_simp; try with_reducible rfl)
    (try simp only [Act.put, List.getElem_toArray, List.getElem_cons_succ, List.getElem_cons_zero, List.setIfInBounds_toArray, List.set_cons_zero, List.set_cons_succ])
    refine HT.takeP (i := 4) (v := ?_) rfl (by kernel_rfl) (by kernel_rfl) (by kernel_rfl) (by kernel_rfl) (fun _ _ _ h => h) (Or.inl ⟨by rfl, ?_⟩) hzwc (fun _ => trivial) ?_
    rotate_left
    · (intro w hSw; have q0 := Blk.cell hSw 0; have q1 := Blk.cell hSw 1; have q2 := Blk.cell hSw 2; have q5 := Blk.cell hSw 5; clear hSw; go_simp; try with_reducible rfl)
    (try simp only [Act.put, List.getElem_toArray, List.getElem_cons_succ, List.getElem_cons_zero, List.setIfInBounds_toArray, List.set_cons_zero, List.set_cons_succ])
    refine HT.takeP (i := 5) (v := ?_) rfl (by kernel_rfl) (by kernel_rfl) (by kernel_rfl) (by kernel_rfl) (fun _ _ _ h => h) (Or.inl ⟨by rfl, ?_⟩) hzwc (fun _ => trivial) ?_
    rotate_left
    · (intro w hSw; have q0 := Blk.cell hSw 0; have q1 := Blk.cell hSw 1; have q2 := Blk.cell hSw 2; have q5 := Blk.cell hSw 5; clear hSw; go_simp; try with_reducible rfl)
    (try simp only [Act.put, List.getElem_toArray, List.getElem_cons_succ, List.getElem_cons_zero, List.setIfInBounds_toArray, List.set_cons_zero, List.set_cons_succ])
    refine HT.takeP (i := 7) (v := ?_) rfl (by kernel_rfl) (by kernel_rfl) (by kernel_rfl) (by kernel_rfl) (fun _ _ _ h => h) (Or.inl ⟨by rfl, ?_⟩) hzwc (fun _ => trivial) ?_
    rotate_left
    · (intro w hSw; have q0 := Blk.cell hSw 0; have q1 := Blk.cell hSw 1; have q2 := Blk.cell hSw 2; have q5 := Blk.cell hSw 5; clear hSw; go_simp; try with_reducible rfl)
    (try simp only [Act.put, List.getElem_toArray, List.getElem_cons_succ, List.getElem_cons_zero, List.setIfInBounds_toArray, List.set_cons_zero, List.set_cons_succ])
    refine HT.takeP (i := 8) (v := ?_) rfl (by kernel_rfl) (by kernel_rfl) (by kernel_rfl) (by kernel_rfl) (fun _ _ _ h => h) (Or.inl ⟨by rfl, ?_⟩) hzwc (fun _ => trivial) ?_
    rotate_left
    · (intro w hSw; have q0 := Blk.cell hSw 0; have q1 := Blk.cell hSw 1; have q2 := Blk.cell hSw 2; have q5 := Blk.cell hSw 5; clear hSw; go_simp; try with_reducible rfl)
    (try simp only [Act.put, List.getElem_toArray, List.getElem_cons_succ, List.getElem_cons_zero, List.setIfInBounds_toArray, List.set_cons_zero, List.set_cons_succ])
    refine HT.two (i := 6) (j := 11) (by kernel_rfl) rfl rfl (fun K hK => ?_) (fun K hK => ?_)
    · go_simp
      obtain ⟨wa, hwa⟩ : ∃ v, wc.alloc (.cells #[] 9) = v := ⟨_, rfl⟩
      rw [hwa]
      have hbwa : Below wc.heap.size wc wa := by rw [← hwa]; exact (Below.refl _ _).alloc (Nat.le_refl _) _
      have hswa : wc.heap.size < wa.heap.size := by rw [← hwa]; simp
      have howa : wa.ownsRow w2.heap.size 9 1 (.slice (some ⟨wc.heap.size, 0, none⟩) 0 0) 0 [] := by rw [← hwa]; exact own_full wc (by omega) 9 1 0 [] rfl (by decide)
      obtain ⟨gs, hgs⟩ : ∃ g, wc.heap.size = g := ⟨_, rfl⟩
      rw [hgs] at howa ⊢
      have hdwa := hdwc.trans (hbwa.mono (by omega))
      have hzwa := hzwc.below hbwa hzwc.lt
      refine hK.out _ _ hzwa trivial ?_
      clear hK K
      (try simp only [Act.put, List.getElem_toArray, List.getElem_cons_succ, List.getElem_cons_zero, List.setIfInBounds_toArray, List.set_cons_zero, List.set_cons_succ])
      refine HT.two (i := 9) (j := 11) (by kernel_rfl) rfl rfl (fun K hK => ?_) (fun K hK => ?_)
      · refine HT.step_app0 rfl (.tmp 12) (.tmp 14) 24 rfl 9 j0 Tryz.underlying24 HJ.out ⟨gs, 0, none⟩ B cB rfl rfl ?_
        refine hK.out _ _ hzwa trivial ?_
        clear hK K
        (try simp only [Act.put, List.getElem_toArray, List.getElem_cons_succ, List.getElem_cons_zero, List.setIfInBounds_toArray, List.set_cons_zero, List.set_cons_succ])
        refine HT.takeP (i := 10) (v := ?_) rfl (by kernel_rfl) (by kernel_rfl) (by kernel_rfl) (by kernel_rfl) (fun _ _ _ h => h) (Or.inl ⟨by rfl, ?_⟩) hzwa (fun _ => trivial) ?_
        rotate_left
        · (intro w hSw; have q0 := Blk.cell hSw 0; have q1 := Blk.cell hSw 1; have q2 := Blk.cell hSw 2; have q5 := Blk.cell hSw 5; clear hSw; go_simp; try with_reducible rfl)
        (try simp only [Act.put, List.getElem_toArray, List.getElem_cons_succ, List.getElem_cons_zero, List.setIfInBounds_toArray, List.set_cons_zero, List.set_cons_succ])
        refine HT.one (i := 11) (by kernel_rfl) rfl (fun K hK => ?_)
        go_simp
        obtain ⟨wg, hwg⟩ : ∃ v, wa.alloc (.cells #[.int .i64 0, .string ⟨#[]⟩, .int .u32 0, .int .i64 0, .slice none 0 0, .slice none 0 0] 26) = v := ⟨_, rfl⟩
        rw [hwg]
        have hbwg : Below wa.heap.size wa wg := by rw [← hwg]; exact (Below.refl _ _).alloc (Nat.le_refl _) _
        have hswg : wa.heap.size < wg.heap.size := by rw [← hwg]; simp
        have hxwg : Blk wg wa.heap.size 26 #[.int .i64 0, .string ⟨#[]⟩, .int .u32 0, .int .i64 0, .slice none 0 0, .slice none 0 0] := by rw [← hwg]; exact Blk.new _ _ _
        obtain ⟨g3, hg3⟩ : ∃ g, wa.heap.size = g := ⟨_, rfl⟩
        rw [hg3] at hxwg ⊢
        have hdwg := hdwa.trans (hbwg.mono (by omega))
        have hzwg := hzwa.below hbwg hzwa.lt
        refine hK.out _ _ hzwg trivial ?_
        clear hK K
        (try simp only [Act.put, List.getElem_toArray, List.getElem_cons_succ, List.getElem_cons_zero, List.setIfInBounds_toArray, List.set_cons_zero, List.set_cons_succ])
        have hl3 := hxwg.lt
        obtain ⟨⟨e0, e1, e2, e3, e4, e5⟩, y0, y1, y2, y3, y4, y5⟩ := Blk.c6 hxwg
        refine HT.one (i := 12) (by kernel_rfl) rfl (fun K hK => ?_)
        go_simp
        refine hK.out _ _ (put6_far hzwg (show w.heap.size ≠ g3 by omega) _ _ _ _ _ _) trivial ?_
        clear hK K
        refine HT.done (by kernel_rfl) ?_
        dsimp only [Exit.then]
        have hup : Upd (fun b => b = g3) wg _ := put6_upd (X := fun b => b = g3) (Upd.refl _ wg) (fun _ => rfl) (.int .i64 k) (.string ⟨s.toArray⟩) (.int .u32 (n : Int)) (.int .i64 0) (.slice none 0 0) (.slice (some ⟨gs, 0, none⟩) 0 0)
        have hus := hup.size
        exact HR.out g3 gs 0 _ _ _ _ _ _ _ _ _ _ _ _ (by omega) (by omega) (by omega) (Nat.lt_of_lt_of_le (show gs < wg.heap.size by omega) hus) (Blk.put6 hxwg _ _ _ _ _ _) (Lies.nil _ _) (((Upd.of_below hdwg (fun b => b = g3)).trans hup).below (Nat.le_refl _) fun k hk => by omega)
      · go_simp
        obtain ⟨wg, hwg⟩ : ∃ v, wa.alloc (.cells #[.int .i64 0, .string ⟨#[]⟩, .int .u32 0, .int .i64 0, .slice none 0 0, .slice none 0 0] 26) = v := ⟨_, rfl⟩
        rw [hwg]
        have hbwg : Below wa.heap.size wa wg := by rw [← hwg]; exact (Below.refl _ _).alloc (Nat.le_refl _) _
        have hswg : wa.heap.size < wg.heap.size := by rw [← hwg]; simp
        have hxwg : Blk wg wa.heap.size 26 #[.int .i64 0, .string ⟨#[]⟩, .int .u32 0, .int .i64 0, .slice none 0 0, .slice none 0 0] := by rw [← hwg]; exact Blk.new _ _ _
        have howg : wg.ownsRow w2.heap.size 9 1 (.slice (some ⟨gs, 0, none⟩) 0 0) 0 [] := by rw [← hwg]; exact World.ownsRow.alloc howa _
        obtain ⟨g3, hg3⟩ : ∃ g, wa.heap.size = g := ⟨_, rfl⟩
        rw [hg3] at hxwg ⊢
        have hdwg := hdwa.trans (hbwg.mono (by omega))
        have hzwg := hzwa.below hbwg hzwa.lt
        refine hK.out _ _ hzwg trivial ?_
        clear hK K
        (try simp only [Act.put, List.getElem_toArray, List.getElem_cons_succ, List.getElem_cons_zero, List.setIfInBounds_toArray, List.set_cons_zero, List.set_cons_succ])
        refine HT.one (i := 9) (by kernel_rfl) rfl (fun K hK => ?_)
        refine HT.step_app0 rfl (.tmp 12) (.tmp 14) 24 rfl 9 j0 Tryz.underlying24 HJ.out ⟨gs, 0, none⟩ B cB rfl rfl ?_
        refine hK.out _ _ hzwg trivial ?_
        clear hK K
        (try simp only [Act.put, List.getElem_toArray, List.getElem_cons_succ, List.getElem_cons_zero, List.setIfInBounds_toArray, List.set_cons_zero, List.set_cons_succ])
        refine HT.takeP (i := 10) (v := ?_) rfl (by kernel_rfl) (by kernel_rfl) (by kernel_rfl) (by kernel_rfl) (fun _ _ _ h => h) (Or.inl ⟨by rfl, ?_⟩) hzwg (fun _ => trivial) ?_
        rotate_left
        · (intro w hSw; have q0 := Blk.cell hSw 0; have q1 := Blk.cell hSw 1; have q2 := Blk.cell hSw 2; have q5 := Blk.cell hSw 5; clear hSw; go_simp; try with_reducible rfl)
        (try simp only [Act.put, List.getElem_toArray, List.getElem_cons_succ, List.getElem_cons_zero, List.setIfInBounds_toArray, List.set_cons_zero, List.set_cons_succ])
        have hl3 := hxwg.lt
        obtain ⟨⟨e0, e1, e2, e3, e4, e5⟩, y0, y1, y2, y3, y4, y5⟩ := Blk.c6 hxwg
        refine HT.one (i := 12) (by kernel_rfl) rfl (fun K hK => ?_)
        go_simp
        refine hK.out _ _ (put6_far hzwg (show w.heap.size ≠ g3 by omega) _ _ _ _ _ _) trivial ?_
        clear hK K
        refine HT.done (by kernel_rfl) ?_
        dsimp only [Exit.then]
        have hup : Upd (fun b => b = g3) wg _ := put6_upd (X := fun b => b = g3) (Upd.refl _ wg) (fun _ => rfl) (.int .i64 k) (.string ⟨s.toArray⟩) (.int .u32 (n : Int)) (.int .i64 0) (.slice none 0 0) (.slice (some ⟨gs, 0, none⟩) 0 0)
        have hus := hup.size
        exact HR.out g3 gs 0 _ _ _ _ _ _ _ _ _ _ _ _ (by omega) (by omega) (by omega) (Nat.lt_of_lt_of_le (show gs < wg.heap.size by omega) hus) (Blk.put6 hxwg _ _ _ _ _ _) (Lies.nil _ _) (((Upd.of_below hdwg (fun b => b = g3)).trans hup).below (Nat.le_refl _) fun k hk => by omega)
    · go_simp
      obtain ⟨wg, hwg⟩ : ∃ v, wc.alloc (.cells #[.int .i64 0, .string ⟨#[]⟩, .int .u32 0, .int .i64 0, .slice none 0 0, .slice none 0 0] 26) = v := ⟨_, rfl⟩
      rw [hwg]
      have hbwg : Below wc.heap.size wc wg := by rw [← hwg]; exact (Below.refl _ _).alloc (Nat.le_refl _) _
      have hswg : wc.heap.size < wg.heap.size := by rw [← hwg]; simp
      have hxwg : Blk wg wc.heap.size 26 #[.int .i64 0, .string ⟨#[]⟩, .int .u32 0, .int .i64 0, .slice none 0 0, .slice none 0 0] := by rw [← hwg]; exact Blk.new _ _ _
      obtain ⟨g3, hg3⟩ : ∃ g, wc.heap.size = g := ⟨_, rfl⟩
      rw [hg3] at hxwg ⊢
      have hdwg := hdwc.trans (hbwg.mono (by omega))
      have hzwg := hzwc.below hbwg hzwc.lt
      refine hK.out _ _ hzwg trivial ?_
      clear hK K
      (try simp only [Act.put, List.getElem_toArray, List.getElem_cons_succ, List.getElem_cons_zero, List.setIfInBounds_toArray, List.set_cons_zero, List.set_cons_succ])
      refine HT.one (i := 6) (by kernel_rfl) rfl (fun K hK => ?_)
      go_simp
      obtain ⟨wa, hwa⟩ : ∃ v, wg.alloc (.cells #[] 9) = v := ⟨_, rfl⟩
      rw [hwa]
      have hbwa : Below wg.heap.size wg wa := by rw [← hwa]; exact (Below.refl _ _).alloc (Nat.le_refl _) _
      have hswa : wg.heap.size < wa.heap.size := by rw [← hwa]; simp
      have howa : wa.ownsRow w2.heap.size 9 1 (.slice (some ⟨wg.heap.size, 0, none⟩) 0 0) 0 [] := by rw [← hwa]; exact own_full wg (by omega) 9 1 0 [] rfl (by decide)
      obtain ⟨gs, hgs⟩ : ∃ g, wg.heap.size = g := ⟨_, rfl⟩
      rw [hgs] at howa ⊢
      have hdwa := hdwg.trans (hbwa.mono (by omega))
      have hzwa := hzwg.below hbwa hzwg.lt
      have hxwa := hxwg.below hbwa hxwg.lt
      refine hK.out _ _ hzwa trivial ?_
      clear hK K
      (try simp only [Act.put, List.getElem_toArray, List.getElem_cons_succ, List.getElem_cons_zero, List.setIfInBounds_toArray, List.set_cons_zero, List.set_cons_succ])
      refine HT.one (i := 9) (by kernel_rfl) rfl (fun K hK => ?_)
      refine HT.step_app0 rfl (.tmp 12) (.tmp 14) 24 rfl 9 j0 Tryz.underlying24 HJ.out ⟨gs, 0, none⟩ B cB rfl rfl ?_
      refine hK.out _ _ hzwa trivial ?_
      clear hK K
      (try simp only [Act.put, List.getElem_toArray, List.getElem_cons_succ, List.getElem_cons_zero, List.setIfInBounds_toArray, List.set_cons_zero, List.set_cons_succ])
      refine HT.takeP (i := 10) (v := ?_) rfl (by kernel_rfl) (by kernel_rfl) (by kernel_rfl) (by kernel_rfl) (fun _ _ _ h => h) (Or.inl ⟨by rfl, ?_⟩) hzwa (fun _ => trivial) ?_
      rotate_left
      · (intro w hSw; have q0 := Blk.cell hSw 0; have q1 := Blk.cell hSw 1; have q2 := Blk.cell hSw 2; have q5 := Blk.cell hSw 5; clear hSw; go_simp; try with_reducible rfl)
      (try simp only [Act.put, List.getElem_toArray, List.getElem_cons_succ, List.getElem_cons_zero, List.setIfInBounds_toArray, List.set_cons_zero, List.set_cons_succ])
      have hl3 := hxwa.lt
      obtain ⟨⟨e0, e1, e2, e3, e4, e5⟩, y0, y1, y2, y3, y4, y5⟩ := Blk.c6 hxwa
      refine HT.one (i := 12) (by kernel_rfl) rfl (fun K hK => ?_)
      go_simp
      refine hK.out _ _ (put6_far hzwa (show w.heap.size ≠ g3 by omega) _ _ _ _ _ _) trivial ?_
      clear hK K
      refine HT.done (by kernel_rfl) ?_
      dsimp only [Exit.then]
      have hup : Upd (fun b => b = g3) wa _ := put6_upd (X := fun b => b = g3) (Upd.refl _ wa) (fun _ => rfl) (.int .i64 k) (.string ⟨s.toArray⟩) (.int .u32 (n : Int)) (.int .i64 0) (.slice none 0 0) (.slice (some ⟨gs, 0, none⟩) 0 0)
      have hus := hup.size
      exact HR.out g3 gs 0 _ _ _ _ _ _ _ _ _ _ _ _ (by omega) (by omega) (by omega) (Nat.lt_of_lt_of_le (show gs < wa.heap.size by omega) hus) (Blk.put6 hxwa _ _ _ _ _ _) (Lies.nil _ _) (((Upd.of_below hdwa (fun b => b = g3)).trans hup).below (Nat.le_refl _) fun k hk => by omega)
  · refine HT.takeP (i := 0) (v := ?_) rfl (by kernel_rfl) (by kernel_rfl) (by kernel_rfl) (by kernel_rfl) (fun _ _ _ h => h) (Or.inl ⟨by rfl, ?_⟩) hzwc (fun _ => trivial) ?_
    rotate_left
    · (intro w hSw; have q0 := Blk.cell hSw 0; have q1 := Blk.cell hSw 1; have q2 := Blk.cell hSw 2; have q5 := Blk.cell hSw 5; clear hSw; go_simp; try with_reducible rfl)
    (try simp only [Act.put, List.getElem_toArray, List.getElem_cons_succ, List.getElem_cons_zero, List.setIfInBounds_toArray, List.set_cons_zero, List.set_cons_succ])
    refine HT.takeP (i := 1) (v := ?_) rfl (by kernel_rfl) (by kernel_rfl) (by kernel_rfl) (by kernel_rfl) (fun _ _ _ h => h) (Or.inl ⟨by rfl, ?_⟩) hzwc (fun _ => trivial) ?_
    rotate_left
    · (intro w hSw; have q0 := Blk.cell hSw 0; have q1 := Blk.cell hSw 1; have q2 := Blk.cell hSw 2; have q5 := Blk.cell hSw 5; clear hSw; go_simp; try with_reducible rfl)
    (try simp only [Act.put, List.getElem_toArray, List.getElem_cons_succ, List.getElem_cons_zero, List.setIfInBounds_toArray, List.set_cons_zero, List.set_cons_succ])
    refine HT.takeP (i := 2) (v := ?_) rfl (by kernel_rfl) (by kernel_rfl) (by kernel_rfl) (by kernel_rfl) (fun _ _ _ h => h) (Or.inl ⟨by rfl, ?_⟩) hzwc (fun _ => trivial) ?_
    rotate_left
    · (intro w hSw; have q0 := Blk.cell hSw 0; have q1 := Blk.cell hSw 1; have q2 := Blk.cell hSw 2; have q5 := Blk.cell hSw 5; clear hSw; go_simp; try with_reducible rfl)
    (try simp only [Act.put, List.getElem_toArray, List.getElem_cons_succ, List.getElem_cons_zero, List.setIfInBounds_toArray, List.set_cons_zero, List.set_cons_succ])
    refine HT.takeP (i := 3) (v := ?_) rfl (by kernel_rfl) (by kernel_rfl) (by kernel_rfl) (by kernel_rfl) (fun _ _ _ h => h) (Or.inl ⟨by rfl, ?_⟩) hzwc (fun _ => trivial) ?_
    rotate_left
    · (intro w hSw; have q0 := Blk.cell hSw 0; have q1 := Blk.cell hSw 1; have q2 := Blk.cell hSw 2; have q5 := Blk.cell hSw 5; clear hSw; go_simp; try with_reducible rfl)
    (try simp only [Act.put, List.getElem_toArray, List.getElem_cons_succ, List.getElem_cons_zero, List.setIfInBounds_toArray, List.set_cons_zero, List.set_cons_succ])
    refine HT.takeP (i := 4) (v := ?_) rfl (by kernel_rfl) (by kernel_rfl) (by kernel_rfl) (by kernel_rfl) (fun _ _ _ h => h) (Or.inl ⟨by rfl, ?_⟩) hzwc (fun _ => trivial) ?_
    rotate_left
    · (intro w hSw; have q0 := Blk.cell hSw 0; have q1 := Blk.cell hSw 1; have q2 := Blk.cell hSw 2; have q5 := Blk.cell hSw 5; clear hSw; go_simp; try with_reducible rfl)
    (try simp only [Act.put, List.getElem_toArray, List.getElem_cons_succ, List.getElem_cons_zero, List.setIfInBounds_toArray, List.set_cons_zero, List.set_cons_succ])
    refine HT.takeP (i := 5) (v := ?_) rfl (by kernel_rfl) (by kernel_rfl) (by kernel_rfl) (by kernel_rfl) (fun _ _ _ h => h) (Or.inl ⟨by rfl, ?_⟩) hzwc (fun _ => trivial) ?_
    rotate_left
    · (intro w hSw; have q0 := Blk.cell hSw 0; have q1 := Blk.cell hSw 1; have q2 := Blk.cell hSw 2; have q5 := Blk.cell hSw 5; clear hSw; go_simp; try with_reducible rfl)
    (try simp only [Act.put, List.getElem_toArray, List.getElem_cons_succ, List.getElem_cons_zero, List.setIfInBounds_toArray, List.set_cons_zero, List.set_cons_succ])
    refine HT.takeP (i := 7) (v := ?_) rfl (by kernel_rfl) (by kernel_rfl) (by kernel_rfl) (by kernel_rfl) (fun _ _ _ h => h) (Or.inl ⟨by rfl, ?_⟩) hzwc (fun _ => trivial) ?_
    rotate_left
    · (intro w hSw; have q0 := Blk.cell hSw 0; have q1 := Blk.cell hSw 1; have q2 := Blk.cell hSw 2; have q5 := Blk.cell hSw 5; clear hSw; go_simp; try with_reducible rfl)
    (try simp only [Act.put, List.getElem_toArray, List.getElem_cons_succ, List.getElem_cons_zero, List.setIfInBounds_toArray, List.set_cons_zero, List.set_cons_succ])
    refine HT.takeP (i := 8) (v := ?_) rfl (by kernel_rfl) (by kernel_rfl) (by kernel_rfl) (by kernel_rfl) (fun _ _ _ h => h) (Or.inl ⟨by rfl, ?_⟩) hzwc (fun _ => trivial) ?_
    rotate_left
    · (intro w hSw; have q0 := Blk.cell hSw 0; have q1 := Blk.cell hSw 1; have q2 := Blk.cell hSw 2; have q5 := Blk.cell hSw 5; clear hSw; go_simp; try with_reducible rfl)
    (try simp only [Act.put, List.getElem_toArray, List.getElem_cons_succ, List.getElem_cons_zero, List.setIfInBounds_toArray, List.set_cons_zero, List.set_cons_succ])
    refine HT.two (i := 6) (j := 11) (by kernel_rfl) rfl rfl (fun K hK => ?_) (fun K hK => ?_)
    · go_simp
      obtain ⟨wa, hwa⟩ : ∃ v, wc.alloc (.cells #[] 9) = v := ⟨_, rfl⟩
      rw [hwa]
      have hbwa : Below wc.heap.size wc wa := by rw [← hwa]; exact (Below.refl _ _).alloc (Nat.le_refl _) _
      have hswa : wc.heap.size < wa.heap.size := by rw [← hwa]; simp
      have howa : wa.ownsRow w2.heap.size 9 1 (.slice (some ⟨wc.heap.size, 0, none⟩) 0 0) 0 [] := by rw [← hwa]; exact own_full wc (by omega) 9 1 0 [] rfl (by decide)
      obtain ⟨gs, hgs⟩ : ∃ g, wc.heap.size = g := ⟨_, rfl⟩
      rw [hgs] at howa ⊢
      have hdwa := hdwc.trans (hbwa.mono (by omega))
      have hzwa := hzwc.below hbwa hzwc.lt
      refine hK.out _ _ hzwa trivial ?_
      clear hK K
      (try simp only [Act.put, List.getElem_toArray, List.getElem_cons_succ, List.getElem_cons_zero, List.setIfInBounds_toArray, List.set_cons_zero, List.set_cons_succ])
      refine HT.two (i := 9) (j := 11) (by kernel_rfl) rfl rfl (fun K hK => ?_) (fun K hK => ?_)
      · have hNW := HNN.out wa hdwa
        refine step_append_lies _ rfl (.tmp 12) (.tmp 14) 24 rfl w2.heap.size 9 j0 (.string ⟨#[]⟩) 1 16 Tryz.underlying24 HJ.out HJ0.out HJ1.out HJ2.out rfl (by decide) (.slice (some ⟨gs, 0, none⟩) 0 0) 0 [] rfl howa ⟨b, o, none⟩ ps.length cB (ps.map strV) rfl (by simp) (fun j u hj => by obtain ⟨a, ha, hc⟩ := hNW j u hj; cases ha; exact hc) (fun u hu => by obtain ⟨p, _, rfl⟩ := List.mem_map.1 hu; rfl) hp0 (by omega) (by omega) (by omega) _ rfl ?_
        intro gf cf wf hown hgrow hat hlt
        rw [Nat.zero_add] at hown ⊢
        rw [List.nil_append] at hown
        have hU : Upd (fun b => b = gs) wa wf := (Upd.refl _ wa).grown hgrow fun k hk _ => by cases hk; rfl
        have hsV := hU.size
        have hgf := own_at hown
        have hnwf : Lies wf (some ⟨gf, 0, none⟩) (ps.map strV) := fun j u hj => ⟨_, rfl, hown.cells (g := gf) rfl j u hj⟩
        have hdwf : Below w2.heap.size w2 wf := ((Upd.of_below hdwa (fun b => b = gs)).trans hU).below (Nat.le_refl _) fun k hk => by omega
        have hzwf := hzwa.upd hU (show ¬ w.heap.size = gs by omega)
        refine hK.out _ _ hzwf trivial ?_
        clear hK K
        (try simp only [Act.put, List.getElem_toArray, List.getElem_cons_succ, List.getElem_cons_zero, List.setIfInBounds_toArray, List.set_cons_zero, List.set_cons_succ])
        refine HT.takeP (i := 10) (v := ?_) rfl (by kernel_rfl) (by kernel_rfl) (by kernel_rfl) (by kernel_rfl) (fun _ _ _ h => h) (Or.inl ⟨by rfl, ?_⟩) hzwf (fun _ => trivial) ?_
        rotate_left
        · (intro w hSw; have q0 := Blk.cell hSw 0; have q1 := Blk.cell hSw 1; have q2 := Blk.cell hSw 2; have q5 := Blk.cell hSw 5; clear hSw; go_simp; try with_reducible rfl)
        (try simp only [Act.put, List.getElem_toArray, List.getElem_cons_succ, List.getElem_cons_zero, List.setIfInBounds_toArray, List.set_cons_zero, List.set_cons_succ])
        refine HT.one (i := 11) (by kernel_rfl) rfl (fun K hK => ?_)
        go_simp
        obtain ⟨wg, hwg⟩ : ∃ v, wf.alloc (.cells #[.int .i64 0, .string ⟨#[]⟩, .int .u32 0, .int .i64 0, .slice none 0 0, .slice none 0 0] 26) = v := ⟨_, rfl⟩
        rw [hwg]
        have hbwg : Below wf.heap.size wf wg := by rw [← hwg]; exact (Below.refl _ _).alloc (Nat.le_refl _) _
        have hswg : wf.heap.size < wg.heap.size := by rw [← hwg]; simp
        have hxwg : Blk wg wf.heap.size 26 #[.int .i64 0, .string ⟨#[]⟩, .int .u32 0, .int .i64 0, .slice none 0 0, .slice none 0 0] := by rw [← hwg]; exact Blk.new _ _ _
        have hnwg := hnwf.below hbwg
        obtain ⟨g3, hg3⟩ : ∃ g, wf.heap.size = g := ⟨_, rfl⟩
        rw [hg3] at hxwg ⊢
        have hdwg := hdwf.trans (hbwg.mono (by omega))
        have hzwg := hzwf.below hbwg hzwf.lt
        refine hK.out _ _ hzwg trivial ?_
        clear hK K
        (try simp only [Act.put, List.getElem_toArray, List.getElem_cons_succ, List.getElem_cons_zero, List.setIfInBounds_toArray, List.set_cons_zero, List.set_cons_succ])
        have hl3 := hxwg.lt
        obtain ⟨⟨e0, e1, e2, e3, e4, e5⟩, y0, y1, y2, y3, y4, y5⟩ := Blk.c6 hxwg
        refine HT.one (i := 12) (by kernel_rfl) rfl (fun K hK => ?_)
        go_simp
        refine hK.out _ _ (put6_far hzwg (show w.heap.size ≠ g3 by omega) _ _ _ _ _ _) trivial ?_
        clear hK K
        refine HT.done (by kernel_rfl) ?_
        dsimp only [Exit.then]
        have hup : Upd (fun b => b = g3) wg _ := put6_upd (X := fun b => b = g3) (Upd.refl _ wg) (fun _ => rfl) (.int .i64 k) (.string ⟨s.toArray⟩) (.int .u32 (n : Int)) (.int .i64 0) (.slice none 0 0) (.slice (some ⟨gf, 0, none⟩) ps.length cf)
        have hus := hup.size
        exact HR.out g3 gf cf _ _ _ _ _ _ _ _ _ _ _ _ (by omega) (by omega) (by omega) (Nat.lt_of_lt_of_le (show gf < wg.heap.size by omega) hus) (Blk.put6 hxwg _ _ _ _ _ _) (hup.lies hnwg fun b o e _ => by cases e; omega) (((Upd.of_below hdwg (fun b => b = g3)).trans hup).below (Nat.le_refl _) fun k hk => by omega)
      · go_simp
        obtain ⟨wg, hwg⟩ : ∃ v, wa.alloc (.cells #[.int .i64 0, .string ⟨#[]⟩, .int .u32 0, .int .i64 0, .slice none 0 0, .slice none 0 0] 26) = v := ⟨_, rfl⟩
        rw [hwg]
        have hbwg : Below wa.heap.size wa wg := by rw [← hwg]; exact (Below.refl _ _).alloc (Nat.le_refl _) _
        have hswg : wa.heap.size < wg.heap.size := by rw [← hwg]; simp
        have hxwg : Blk wg wa.heap.size 26 #[.int .i64 0, .string ⟨#[]⟩, .int .u32 0, .int .i64 0, .slice none 0 0, .slice none 0 0] := by rw [← hwg]; exact Blk.new _ _ _
        have howg : wg.ownsRow w2.heap.size 9 1 (.slice (some ⟨gs, 0, none⟩) 0 0) 0 [] := by rw [← hwg]; exact World.ownsRow.alloc howa _
        obtain ⟨g3, hg3⟩ : ∃ g, wa.heap.size = g := ⟨_, rfl⟩
        rw [hg3] at hxwg ⊢
        have hdwg := hdwa.trans (hbwg.mono (by omega))
        have hzwg := hzwa.below hbwg hzwa.lt
        refine hK.out _ _ hzwg trivial ?_
        clear hK K
        (try simp only [Act.put, List.getElem_toArray, List.getElem_cons_succ, List.getElem_cons_zero, List.setIfInBounds_toArray, List.set_cons_zero, List.set_cons_succ])
        refine HT.one (i := 9) (by kernel_rfl) rfl (fun K hK => ?_)
        have hNW := HNN.out wg hdwg
        refine step_append_lies _ rfl (.tmp 12) (.tmp 14) 24 rfl w2.heap.size 9 j0 (.string ⟨#[]⟩) 1 16 Tryz.underlying24 HJ.out HJ0.out HJ1.out HJ2.out rfl (by decide) (.slice (some ⟨gs, 0, none⟩) 0 0) 0 [] rfl howg ⟨b, o, none⟩ ps.length cB (ps.map strV) rfl (by simp) (fun j u hj => by obtain ⟨a, ha, hc⟩ := hNW j u hj; cases ha; exact hc) (fun u hu => by obtain ⟨p, _, rfl⟩ := List.mem_map.1 hu; rfl) hp0 (by omega) (by omega) (by omega) _ rfl ?_
        intro gf cf wf hown hgrow hat hlt
        rw [Nat.zero_add] at hown ⊢
        rw [List.nil_append] at hown
        have hU : Upd (fun b => b = gs) wg wf := (Upd.refl _ wg).grown hgrow fun k hk _ => by cases hk; rfl
        have hsV := hU.size
        have hgf := own_at hown
        have hnwf : Lies wf (some ⟨gf, 0, none⟩) (ps.map strV) := fun j u hj => ⟨_, rfl, hown.cells (g := gf) rfl j u hj⟩
        have hdwf : Below w2.heap.size w2 wf := ((Upd.of_below hdwg (fun b => b = gs)).trans hU).below (Nat.le_refl _) fun k hk => by omega
        have hzwf := hzwg.upd hU (show ¬ w.heap.size = gs by omega)
        have hxwf := hxwg.upd hU (show ¬ g3 = gs by omega)
        have hfg : g3 ≠ gf := fun h => hat.elim (fun h4 => by have h5 : gs = gf := Option.some.inj h4; omega) (fun h4 => by have := hxwg.lt; omega)
        refine hK.out _ _ hzwf trivial ?_
        clear hK K
        (try simp only [Act.put, List.getElem_toArray, List.getElem_cons_succ, List.getElem_cons_zero, List.setIfInBounds_toArray, List.set_cons_zero, List.set_cons_succ])
        refine HT.takeP (i := 10) (v := ?_) rfl (by kernel_rfl) (by kernel_rfl) (by kernel_rfl) (by kernel_rfl) (fun _ _ _ h => h) (Or.inl ⟨by rfl, ?_⟩) hzwf (fun _ => trivial) ?_
        rotate_left
        · (intro w hSw; have q0 := Blk.cell hSw 0; have q1 := Blk.cell hSw 1; have q2 := Blk.cell hSw 2; have q5 := Blk.cell hSw 5; clear hSw; go_simp; try with_reducible rfl)
        (try simp only [Act.put, List.getElem_toArray, List.getElem_cons_succ, List.getElem_cons_zero, List.setIfInBounds_toArray, List.set_cons_zero, List.set_cons_succ])
        have hl3 := hxwf.lt
        obtain ⟨⟨e0, e1, e2, e3, e4, e5⟩, y0, y1, y2, y3, y4, y5⟩ := Blk.c6 hxwf
        refine HT.one (i := 12) (by kernel_rfl) rfl (fun K hK => ?_)
        go_simp
        refine hK.out _ _ (put6_far hzwf (show w.heap.size ≠ g3 by omega) _ _ _ _ _ _) trivial ?_
        clear hK K
        refine HT.done (by kernel_rfl) ?_
        dsimp only [Exit.then]
        have hup : Upd (fun b => b = g3) wf _ := put6_upd (X := fun b => b = g3) (Upd.refl _ wf) (fun _ => rfl) (.int .i64 k) (.string ⟨s.toArray⟩) (.int .u32 (n : Int)) (.int .i64 0) (.slice none 0 0) (.slice (some ⟨gf, 0, none⟩) ps.length cf)
        have hus := hup.size
        exact HR.out g3 gf cf _ _ _ _ _ _ _ _ _ _ _ _ (by omega) (by omega) (by omega) (Nat.lt_of_lt_of_le (show gf < wf.heap.size by omega) hus) (Blk.put6 hxwf _ _ _ _ _ _) (hup.lies hnwf fun b o e _ => by cases e; omega) (((Upd.of_below hdwf (fun b => b = g3)).trans hup).below (Nat.le_refl _) fun k hk => by omega)
    · go_simp
      obtain ⟨wg, hwg⟩ : ∃ v, wc.alloc (.cells #[.int .i64 0, .string ⟨#[]⟩, .int .u32 0, .int .i64 0, .slice none 0 0, .slice none 0 0] 26) = v := ⟨_, rfl⟩
      rw [hwg]
      have hbwg : Below wc.heap.size wc wg := by rw [← hwg]; exact (Below.refl _ _).alloc (Nat.le_refl _) _
      have hswg : wc.heap.size < wg.heap.size := by rw [← hwg]; simp
      have hxwg : Blk wg wc.heap.size 26 #[.int .i64 0, .string ⟨#[]⟩, .int .u32 0, .int .i64 0, .slice none 0 0, .slice none 0 0] := by rw [← hwg]; exact Blk.new _ _ _
      obtain ⟨g3, hg3⟩ : ∃ g, wc.heap.size = g := ⟨_, rfl⟩
      rw [hg3] at hxwg ⊢
      have hdwg := hdwc.trans (hbwg.mono (by omega))
      have hzwg := hzwc.below hbwg hzwc.lt
      refine hK.out _ _ hzwg trivial ?_
      clear hK K
      (try simp only [Act.put, List.getElem_toArray, List.getElem_cons_succ, List.getElem_cons_zero, List.setIfInBounds_toArray, List.set_cons_zero, List.set_cons_succ])
      refine HT.one (i := 6) (by kernel_rfl) rfl (fun K hK => ?_)
      go_simp
      obtain ⟨wa, hwa⟩ : ∃ v, wg.alloc (.cells #[] 9) = v := ⟨_, rfl⟩
      rw [hwa]
      have hbwa : Below wg.heap.size wg wa := by rw [← hwa]; exact (Below.refl _ _).alloc (Nat.le_refl _) _
      have hswa : wg.heap.size < wa.heap.size := by rw [← hwa]; simp
      have howa : wa.ownsRow w2.heap.size 9 1 (.slice (some ⟨wg.heap.size, 0, none⟩) 0 0) 0 [] := by rw [← hwa]; exact own_full wg (by omega) 9 1 0 [] rfl (by decide)
      obtain ⟨gs, hgs⟩ : ∃ g, wg.heap.size = g := ⟨_, rfl⟩
      rw [hgs] at howa ⊢
      have hdwa := hdwg.trans (hbwa.mono (by omega))
      have hzwa := hzwg.below hbwa hzwg.lt
      have hxwa := hxwg.below hbwa hxwg.lt
      refine hK.out _ _ hzwa trivial ?_
      clear hK K
      (try simp only [Act.put, List.getElem_toArray, List.getElem_cons_succ, List.getElem_cons_zero, List.setIfInBounds_toArray, List.set_cons_zero, List.set_cons_succ])
      refine HT.one (i := 9) (by kernel_rfl) rfl (fun K hK => ?_)
      have hNW := HNN.out wa hdwa
      refine step_append_lies _ rfl (.tmp 12) (.tmp 14) 24 rfl w2.heap.size 9 j0 (.string ⟨#[]⟩) 1 16 Tryz.underlying24 HJ.out HJ0.out HJ1.out HJ2.out rfl (by decide) (.slice (some ⟨gs, 0, none⟩) 0 0) 0 [] rfl howa ⟨b, o, none⟩ ps.length cB (ps.map strV) rfl (by simp) (fun j u hj => by obtain ⟨a, ha, hc⟩ := hNW j u hj; cases ha; exact hc) (fun u hu => by obtain ⟨p, _, rfl⟩ := List.mem_map.1 hu; rfl) hp0 (by omega) (by omega) (by omega) _ rfl ?_
      intro gf cf wf hown hgrow hat hlt
      rw [Nat.zero_add] at hown ⊢
      rw [List.nil_append] at hown
      have hU : Upd (fun b => b = gs) wa wf := (Upd.refl _ wa).grown hgrow fun k hk _ => by cases hk; rfl
      have hsV := hU.size
      have hgf := own_at hown
      have hnwf : Lies wf (some ⟨gf, 0, none⟩) (ps.map strV) := fun j u hj => ⟨_, rfl, hown.cells (g := gf) rfl j u hj⟩
      have hdwf : Below w2.heap.size w2 wf := ((Upd.of_below hdwa (fun b => b = gs)).trans hU).below (Nat.le_refl _) fun k hk => by omega
      have hzwf := hzwa.upd hU (show ¬ w.heap.size = gs by omega)
      have hxwf := hxwa.upd hU (show ¬ g3 = gs by omega)
      have hfg : g3 ≠ gf := fun h => hat.elim (fun h4 => by have h5 : gs = gf := Option.some.inj h4; omega) (fun h4 => by have := hxwa.lt; omega)
      refine hK.out _ _ hzwf trivial ?_
      clear hK K
      (try simp only [Act.put, List.getElem_toArray, List.getElem_cons_succ, List.getElem_cons_zero, List.setIfInBounds_toArray, List.set_cons_zero, List.set_cons_succ])
      refine HT.takeP (i := 10) (v := ?_) rfl (by kernel_rfl) (by kernel_rfl) (by kernel_rfl) (by kernel_rfl) (fun _ _ _ h => h) (Or.inl ⟨by rfl, ?_⟩) hzwf (fun _ => trivial) ?_
      rotate_left
      · (intro w hSw; have q0 := Blk.cell hSw 0; have q1 := Blk.cell hSw 1; have q2 := Blk.cell hSw 2; have q5 := Blk.cell hSw 5; clear hSw; go_simp; try with_reducible rfl)
      (try simp only [Act.put, List.getElem_toArray, List.getElem_cons_succ, List.getElem_cons_zero, List.setIfInBounds_toArray, List.set_cons_zero, List.set_cons_succ])
      have hl3 := hxwf.lt
      obtain ⟨⟨e0, e1, e2, e3, e4, e5⟩, y0, y1, y2, y3, y4, y5⟩ := Blk.c6 hxwf
      refine HT.one (i := 12) (by kernel_rfl) rfl (fun K hK => ?_)
      go_simp
      refine hK.out _ _ (put6_far hzwf (show w.heap.size ≠ g3 by omega) _ _ _ _ _ _) trivial ?_
      clear hK K
      refine HT.done (by kernel_rfl) ?_
      dsimp only [Exit.then]
      have hup : Upd (fun b => b = g3) wf _ := put6_upd (X := fun b => b = g3) (Upd.refl _ wf) (fun _ => rfl) (.int .i64 k) (.string ⟨s.toArray⟩) (.int .u32 (n : Int)) (.int .i64 0) (.slice none 0 0) (.slice (some ⟨gf, 0, none⟩) ps.length cf)
      have hus := hup.size
      exact HR.out g3 gf cf _ _ _ _ _ _ _ _ _ _ _ _ (by omega) (by omega) (by omega) (Nat.lt_of_lt_of_le (show gf < wf.heap.size by omega) hus) (Blk.put6 hxwf _ _ _ _ _ _) (hup.lies hnwf fun b o e _ => by cases e; omega) (((Upd.of_below hdwf (fun b => b = g3)).trans hup).below (Nat.le_refl _) fun k hk => by omega)
end Go.Proofs.YtokfmclbninkmaaGreatDoor.Sw
