/- DERIVED. AppF, AppW, PaMem in one text. By an AI agent. -/
import Derived.Test.YtpoepignpdfleaaGreatDoorZ01
import Derived.OwnWalkIn
import Derived.RegionTactic
import Derived.Test.YtpoepignpdfleaaGreatDoorZ02
/- DERIVED. Of no program: where an append's result lies: in the old array, or in a new one. By an AI agent. -/
namespace Go.Proofs.YtpoepignpdfleaaGreatDoor.Args
open Go Go.RowKit
variable {P : Program} (w : World)
theorem run_append_where (base : Nat) (t ty e : TypeId) (i : TypeInfo) (z : Value) (size bytes : Nat) (ht : P.underlying t = some (.slice e)) (hi : P.info? e = some i) (hz : i.zero = some z)
    (hsize : i.size = size) (hby : i.bytes = bytes) (hzs : z.cells.size = size) (hsz : 0 < size)
    (v : Value) (n : Nat) (xs : List Value) (hown : w.ownsRow base e size v n xs)
    (a : Addr) (m c : Nat) (news : List Value) (hl : news.length = m * size) (hnews : ∀ j u, news[j]? = some u → w.cell? (a.add j) = some u) (h1 : ∀ u ∈ news, u.oneCell' = true)
    (h63 : n + m ≤ maxLen) (hbytes : (n + m) * bytes ≤ 140737488355328) (hbase : base ≤ w.heap.size) (hm : 0 < m) :
    ∃ v' w', (Builtin.append_ #[t, t] ty #[v, .slice (some a) m c]).run P w = .ok v' w' ∧ w'.ownsRow base e size v' (n + m) (xs ++ news) ∧ w.grownBy w' v.ownBlock ∧
      (v'.ownBlock = v.ownBlock ∨ v'.ownBlock = some w.heap.size) := by
  obtain ⟨v', w', hr, h2, h3, _⟩ := run_append_own (P := P) w base t ty e i z size bytes ht hi hz hsize hby hzs hsz v n xs hown a m c news hl hnews h1 h63 hbytes hbase
  refine ⟨v', w', hr, h2, h3, ?_⟩
  subst hsize
  subst hby
  have hsmall : n + m ≤ 9223372036854775807 := by simp only [maxLen] at h63; omega
  rcases hown.2 with ⟨rfl, rfl⟩ | ⟨g, cap, cur, rfl, hbg, hg, hnc, hcm, hcs, htake⟩
  · have hr2 := run_append_nil (P := P) w t ty e i z ht hi hz a m c news hl hnews (by omega) (by omega) (by have hb := hbytes; simp only [Nat.zero_add] at hb; omega)
    rw [hr] at hr2
    injection hr2 with e1 _
    rw [e1]
    exact .inr rfl
  · by_cases hroom : n + m ≤ cap
    · have hfit : n * i.size + news.length ≤ cur.size := by rw [hl, hcs, ← Nat.add_mul]; exact Nat.mul_le_mul_right _ hroom
      have hr2 := run_append_room (P := P) w t ty e i ht hi g n cap cur hg a m c news hl hnews h1 hroom hfit
      rw [hr] at hr2
      injection hr2 with e1 _
      rw [e1]
      exact .inl rfl
    · have holds : ∀ j u, xs[j]? = some u → w.cell? ((⟨g, 0, none⟩ : Addr).add j) = some u := hown.cells (g := g) rfl
      have hr2 := run_append_grow (P := P) w t ty e i z ht hi hz ⟨g, 0, none⟩ n cap xs hown.1 holds a m c news hl hnews (by omega) (by omega) (growslice_fits (by omega) hbytes)
      rw [hr] at hr2
      injection hr2 with e1 _
      rw [e1]
      exact .inr rfl
theorem wpListIn_where {F : Fence} {nn : Nat} {ops : Array Oper} {rest : List Oper} {o : Oper} {b : Act} {Q : Exit → Act → World → Prop}
    (hgd : o.guard = none) (s x : Operand) (t : TypeId) (hop : o.op = Op.call { callee := Callee.builtin Builtin.append, args := #[s, x], argTypes := #[t, t] })
    (base : Nat) (e : TypeId) (i : TypeInfo) (z : Value) (size bytes : Nat) (ht : P.underlying t = some (.slice e)) (hi : P.info? e = some i) (hz : i.zero = some z)
    (hsize : i.size = size) (hby : i.bytes = bytes) (hzs : z.cells.size = size) (hsz : 0 < size)
    (v : Value) (n : Nat) (xs : List Value) (hs : b.eval s = v) (hown : w.ownsRow base e size v n xs)
    (a : Addr) (m c : Nat) (news : List Value) (hx : b.eval x = .slice (some a) m c) (hl : news.length = m * size) (hnews : ∀ j u, news[j]? = some u → w.cell? (a.add j) = some u) (h1 : ∀ u ∈ news, u.oneCell' = true)
    (h63 : n + m ≤ maxLen) (hbytes : (n + m) * bytes ≤ 140737488355328) (hbase : base ≤ w.heap.size) (hm : 0 < m)
    (hK : ∀ g c' w', w'.ownsRow base e size (.slice (some ⟨g, 0, none⟩) (n + m) c') (n + m) (xs ++ news) → w.grownBy w' v.ownBlock → (some g = v.ownBlock ∨ g = w.heap.size) → wpListIn F nn P ops Q rest (b.put o.dst (.slice (some ⟨g, 0, none⟩) (n + m) c')) w') :
    wpListIn F nn P ops Q (o :: rest) b w := by
  refine wpListIn_plain hgd fun K hK' => ?_
  obtain ⟨v', w', hrun, r1, r2, r3⟩ := run_append_where (P := P) w base t o.type e i z size bytes ht hi hz hsize hby hzs hsz v n xs hown a m c news hl hnews h1 h63 hbytes hbase hm
  obtain ⟨g, c', rfl⟩ : ∃ g c', v' = .slice (some ⟨g, 0, none⟩) (n + m) c' := by
    rcases r1.2 with ⟨_, h0⟩ | ⟨g, cap, cur, e1, _⟩
    · omega
    · exact ⟨g, cap, e1⟩
  unfold Oper.wpIn
  refine ⟨?_, ?_⟩
  · simp [Oper.about, hop, resolve, Target.leads, Sem.run_pure]
  · rw [Oper.semAt_plain F _ _ (by rw [hop]; intro c hc'; cases hc')]
    simp [execOp, hop, resolve, invoke, builtin, hs, hx, hrun, Result.andThen]
    refine hK' _ _ (hK g c' w' r1 r2 ?_)
    rcases r3 with h | h
    · exact .inl h
    · exact .inr (by simpa [Value.ownBlock] using h)
end Go.Proofs.YtpoepignpdfleaaGreatDoor.Args
/- DERIVED. Of no program: append in a plain region: where its result lies. By an AI agent. -/
namespace Go.Proofs.YtpoepignpdfleaaGreatDoor.Args
open Go Go.RowKit
variable {P : Program} {w : World}
/-- Behind an append. -/
structure AppE (base : Nat) (e : TypeId) (size : Nat) (w : World) (v : Value) (n m : Nat) (xs : List Value) (g c' : Nat) (w' : World) : Prop where
  own : w'.ownsRow base e size (.slice (some ⟨g, 0, none⟩) (n + m) c') (n + m) xs
  grown : w.grownBy w' v.ownBlock
  at_ : some g = v.ownBlock ∨ g = w.heap.size
theorem wpList_where {ops : Array Oper} {rest : List Oper} {o : Oper} {a : Act} {Q : Exit → Act → World → Prop} (hgd : o.guard = none) (s x : Operand) (t : TypeId)
    (ho : o.op = .call { callee := .builtin .append, args := #[s, x], argTypes := #[t, t] })
    (base : Nat) (e : TypeId) (i : TypeInfo) (z : Value) (size bytes : Nat) (ht : P.underlying t = some (.slice e)) (hi : P.info? e = some i) (hz : i.zero = some z)
    (hsize : i.size = size) (hby : i.bytes = bytes) (hzs : z.cells.size = size) (hsz : 0 < size) (v : Value) (n : Nat) (xs : List Value) (hs : a.eval s = v) (hown : w.ownsRow base e size v n xs)
    (A : Addr) (m c : Nat) (news : List Value) (hx : a.eval x = .slice (some A) m c) (hl : news.length = m * size) (hL : Lies w (some A) news) (h1 : ∀ u ∈ news, u.oneCell' = true) (h63 : n + m ≤ maxLen) (hbytes : (n + m) * bytes ≤ 140737488355328) (hbase : base ≤ w.heap.size) (hm : 0 < m)
    (h : ∀ g c' w', AppE base e size w v n m (xs ++ news) g c' w' → wpList P ops Q rest (a.put o.dst (.slice (some ⟨g, 0, none⟩) (n + m) c')) w') : wpList P ops Q (o :: rest) a w :=
  wpList_plain hgd fun _ hK => by
    obtain ⟨v', w', hrun, h2, h3, h4⟩ := run_append_where (P := P) w base t o.type e i z size bytes ht hi hz hsize hby hzs hsz v n xs hown A m c news hl (fun j u hj => by
      obtain ⟨a, ha, hc⟩ := hL j u hj
      cases ha; exact hc) h1 h63 hbytes hbase hm
    obtain ⟨g, c', rfl⟩ : ∃ g c', v' = .slice (some ⟨g, 0, none⟩) (n + m) c' := by
      rcases h2.2 with ⟨_, h0⟩ | ⟨g, cap, cur, e1, _⟩
      · omega
      · exact ⟨g, cap, e1⟩
    unfold Oper.wp execOp
    simp only [ho, resolve, invoke, builtin, Sem.run_bind, Sem.run_pure, Result.andThen_ok, List.map_toArray, List.map_cons, List.map_nil, hs, hx, hrun]
    refine hK _ _ (h g c' w' ⟨h2, h3, ?_⟩)
    rcases h4 with h4 | h4
    · exact .inl h4
    · exact .inr (by simpa [Value.ownBlock] using h4)
/-- A row that has just been laid, full. -/
theorem own_full (w : World) {lo : Nat} (hb : lo ≤ w.heap.size) (e : TypeId) (size n : Nat) (xs : List Value) (hx : xs.length = n * size) (hm : n ≤ maxLen) : (w.alloc (.cells xs.toArray e)).ownsRow lo e size (.slice (some ⟨w.heap.size, 0, none⟩) n n) n xs :=
  ⟨hx, .inr ⟨w.heap.size, n, xs.toArray, rfl, hb, heap_alloc_new w _, Nat.le_refl _, hm, by simpa using hx, by simp [← hx]⟩⟩
theorem lies_full (w : World) (t : TypeId) (l : List Value) : Lies (w.alloc (.cells l.toArray t)) (some ⟨w.heap.size, 0, none⟩) l := fun j u hj => ⟨_, rfl, by
  rw [add_plain, Nat.zero_add, World.cell?_alloc_at _ _ _ _ rfl]
  simpa using hj⟩
end Go.Proofs.YtpoepignpdfleaaGreatDoor.Args
/- DERIVED. Trees as they lie in memory, and the blocks in which they lie. Of no program. By an AI agent. -/
namespace Go.Proofs.YtpoepignpdfleaaGreatDoor.Pa
open Go Go.RowKit Lx Args
def strV (p : Bs) : Value := .string ⟨p.toArray⟩
/-- A node's six cells. -/
def ndC (k a : Nat) (s : Bs) (n : Nat) (A : Option Addr) (la cA : Nat) (B : Option Addr) (lb cB : Nat) : List Value :=
  [.int .i64 (k : Int), .string ⟨s.toArray⟩, .int .u32 (n : Int), .int .i64 (a : Int), .slice A la cA, .slice B lb cB]
/-- How long a row of parts is, and what room it has. -/
structure CapOk (n c : Nat) : Prop where
  few : n ≤ 100000
  le : n ≤ c
  cap : c ≤ maxLen
theorem own_cap {w : World} {lo : Nat} {e : TypeId} {size n c : Nat} {A : Option Addr} {xs : List Value} (h : w.ownsRow lo e size (.slice A n c) n xs) (hl : n ≤ 100000) : CapOk n c := by
  rcases h.2 with ⟨h, h0⟩ | ⟨g, cap, cur, h, _, _, h1, h2, _⟩
  · cases h; exact ⟨hl, Nat.le_refl _, by decide⟩
  · cases h; exact ⟨hl, h1, h2⟩
mutual
/-- A tree's six cells, and what stands behind them, in blocks of N. -/
def TIn (N : Nat → Prop) (w : World) : Tr → List Value → Prop
  | .mk k a s n ps l, cs => ∃ A cA B cB, cs = ndC k a s n A l.length cA B ps.length cB ∧ CapOk l.length cA ∧ ps.length ≤ 100000 ∧ Lies w B (ps.map strV) ∧ (∀ b o, B = some ⟨b, o, none⟩ → ps ≠ [] → N b) ∧
      ∃ css, Lies w A css.flatten ∧ (∀ b o, A = some ⟨b, o, none⟩ → l ≠ [] → N b) ∧ TsIn N w l css
def TsIn (N : Nat → Prop) (w : World) : List Tr → List (List Value) → Prop
  | [], css => css = []
  | x :: l, css => ∃ c r, css = c :: r ∧ TIn N w x c ∧ TsIn N w l r
end
mutual
theorem TIn.upd {N X : Nat → Prop} {w w' : World} (hu : Upd X w w') (hN : ∀ b, N b → ¬ X b) : ∀ {x : Tr} {cs : List Value}, TIn N w x cs → TIn N w' x cs
  | .mk _ _ _ _ ps l, _, h => by
    unfold TIn at h ⊢
    obtain ⟨A, cA, B, cB, h1, h2, h3, h4, h5, css, h6, h7, h8⟩ := h
    refine ⟨A, cA, B, cB, h1, h2, h3, hu.lies h4 fun b o e hl => hN b (h5 b o e fun e2 => ?_), h5, css, ?_, h7, TsIn.upd hu hN h8⟩
    · rw [e2] at hl; simp at hl
    · refine hu.lies h6 fun b o e hl => hN b (h7 b o e fun e2 => ?_)
      subst e2
      unfold TsIn at h8
      subst h8
      simp at hl
theorem TsIn.upd {N X : Nat → Prop} {w w' : World} (hu : Upd X w w') (hN : ∀ b, N b → ¬ X b) : ∀ {l : List Tr} {css : List (List Value)}, TsIn N w l css → TsIn N w' l css
  | [], _, h => by unfold TsIn at h ⊢; exact h
  | x :: l, _, h => by
    unfold TsIn at h ⊢
    obtain ⟨c, r, h1, h2, h3⟩ := h
    exact ⟨c, r, h1, TIn.upd hu hN h2, TsIn.upd hu hN h3⟩
end
theorem tIn_len {N : Nat → Prop} {w : World} {x : Tr} {cs : List Value} (h : TIn N w x cs) : cs.length = 6 := by
  cases x
  unfold TIn at h
  obtain ⟨_, _, _, _, rfl, _⟩ := h
  rfl
theorem tsIn_len {N : Nat → Prop} {w : World} : ∀ {l : List Tr} {css : List (List Value)}, TsIn N w l css → css.length = l.length ∧ css.flatten.length = l.length * 6
  | [], _, h => by unfold TsIn at h; subst h; exact ⟨rfl, rfl⟩
  | x :: l, _, h => by
    unfold TsIn at h
    obtain ⟨c, r, rfl, h2, h3⟩ := h
    have h4 := tsIn_len h3
    have h5 := tIn_len h2
    simp only [List.length_cons, List.flatten_cons, List.length_append]
    omega
mutual
theorem TIn.mono {N N' : Nat → Prop} {w : World} (hN : ∀ b, N b → b < w.heap.size → N' b) : ∀ {x : Tr} {cs : List Value}, TIn N w x cs → TIn N' w x cs
  | .mk _ _ _ _ ps l, _, h => by
    unfold TIn at h ⊢
    obtain ⟨A, cA, B, cB, h1, h2, h3, h4, h5, css, h6, h7, h8⟩ := h
    refine ⟨A, cA, B, cB, h1, h2, h3, h4, fun b o e hne => hN b (h5 b o e hne) ?_, css, h6, fun b o e hne => hN b (h7 b o e hne) ?_, TsIn.mono hN h8⟩
    · cases ps with
      | nil => exact absurd rfl hne
      | cons p ps =>
        obtain ⟨b', o', e', hb, _⟩ := h4.at_ (j := 0) (u := strV p) rfl
        rw [e] at e'; cases e'; exact hb
    · have hl := (tsIn_len h8).2
      cases l with
      | nil => exact absurd rfl hne
      | cons y l =>
        cases hc : css.flatten with
        | nil => rw [hc] at hl; simp at hl
        | cons u us =>
          obtain ⟨b', o', e', hb, _⟩ := h6.at_ (j := 0) (u := u) (by rw [hc]; rfl)
          rw [e] at e'; cases e'; exact hb
theorem TsIn.mono {N N' : Nat → Prop} {w : World} (hN : ∀ b, N b → b < w.heap.size → N' b) : ∀ {l : List Tr} {css : List (List Value)}, TsIn N w l css → TsIn N' w l css
  | [], _, h => by unfold TsIn at h ⊢; exact h
  | x :: l, _, h => by
    unfold TsIn at h ⊢
    obtain ⟨c, r, h1, h2, h3⟩ := h
    exact ⟨c, r, h1, TIn.mono hN h2, TsIn.mono hN h3⟩
end
/-- The i-th tree's cells among all. -/
theorem tsIn_at {N : Nat → Prop} {w : World} : ∀ {l : List Tr} {css : List (List Value)}, TsIn N w l css → ∀ (i : Nat) (x : Tr), l[i]? = some x → ∃ c, TIn N w x c ∧ ∀ j, j < 6 → css.flatten[i * 6 + j]? = c[j]?
  | [], _, _, i, x, hx => by simp at hx
  | y :: l, _, h, i, x, hx => by
    unfold TsIn at h
    obtain ⟨c, r, rfl, h2, h3⟩ := h
    have h5 := tIn_len h2
    cases i with
    | zero =>
      have : y = x := by simpa using hx
      subst this
      refine ⟨c, h2, fun j hj => ?_⟩
      rw [List.flatten_cons, List.getElem?_append_left (by omega)]
      congr 1
      omega
    | succ i =>
      obtain ⟨c', h6, h7⟩ := tsIn_at h3 i x (by simpa using hx)
      refine ⟨c', h6, fun j hj => ?_⟩
      rw [List.flatten_cons, List.getElem?_append_right (by omega), ← h7 j hj]
      congr 1
      omega
theorem tsIn_app {N : Nat → Prop} {w : World} : ∀ {l : List Tr} {css : List (List Value)} {l' : List Tr} {css' : List (List Value)}, TsIn N w l css → TsIn N w l' css' → TsIn N w (l ++ l') (css ++ css')
  | [], _, _, _, h, h' => by unfold TsIn at h; subst h; exact h'
  | x :: l, _, _, _, h, h' => by
    unfold TsIn at h
    obtain ⟨c, r, rfl, h2, h3⟩ := h
    show TsIn N w (x :: (l ++ _)) (c :: (r ++ _))
    unfold TsIn
    exact ⟨c, _, rfl, h2, tsIn_app h3 h'⟩
theorem tsIn_one {N : Nat → Prop} {w : World} {x : Tr} {c : List Value} (h : TIn N w x c) : TsIn N w [x] [c] := by
  unfold TsIn; exact ⟨c, [], rfl, h, by unfold TsIn; rfl⟩
theorem tIn_cells {N : Nat → Prop} {w : World} {x : Tr} {c : List Value} (h : TIn N w x c) : ∃ k a s n A la cA B lb cB, c = ndC k a s n A la cA B lb cB := by
  cases x
  unfold TIn at h
  obtain ⟨A, cA, B, cB, rfl, _⟩ := h
  exact ⟨_, _, _, _, _, _, _, _, _, _, rfl⟩
theorem tIn_put {N : Nat → Prop} {w : World} {k a n : Nat} {s : Bs} {ps : List Bs} {l : List Tr} {A B : Option Addr} {la cA lb cB : Nat} (h : TIn N w (.mk k a s n ps l) (ndC k a s n A la cA B lb cB)) (a' : Nat) : TIn N w (.mk k a' s n ps l) (ndC k a' s n A la cA B lb cB) := by
  unfold TIn at h ⊢
  obtain ⟨A1, cA1, B1, cB1, h1, h2⟩ := h
  simp only [ndC, List.cons.injEq, Value.slice.injEq, and_true, true_and] at h1
  obtain ⟨⟨rfl, rfl, rfl⟩, rfl, rfl, rfl⟩ := h1
  exact ⟨_, _, _, _, rfl, h2⟩
/-- A row of trees that the call owns, in block g; the trees' parts lie elsewhere. -/
structure ArrT (e : TypeId) (lo : Nat) (w : World) (g c : Nat) (xs : List Tr) : Prop where
  ex : ∃ css, w.ownsRow lo e 6 (.slice (some ⟨g, 0, none⟩) xs.length c) xs.length css.flatten ∧ TsIn (fun b => lo ≤ b ∧ b ≠ g) w xs css
theorem own_at {w : World} {lo : Nat} {e : TypeId} {size g n c : Nat} {xs : List Value} (h : w.ownsRow lo e size (.slice (some ⟨g, 0, none⟩) n c) n xs) : lo ≤ g ∧ g < w.heap.size := by
  rcases h.2 with ⟨h, _⟩ | ⟨g', cap, cur, h, hb, hh, _⟩
  · cases h
  · cases h
    exact ⟨hb, (Array.getElem?_eq_some_iff.1 hh).1⟩
theorem own_upd3 {X : Nat → Prop} {w w' : World} {base : Nat} {e : TypeId} {size n g c : Nat} {xs : List Value} (h : w.ownsRow base e size (.slice (some ⟨g, 0, none⟩) n c) n xs) (hu : Upd X w w') (hX : ¬ X g) : w'.ownsRow base e size (.slice (some ⟨g, 0, none⟩) n c) n xs := by
  have hg := (own_at h).2
  obtain ⟨h1, h2⟩ := h
  refine ⟨h1, ?_⟩
  rcases h2 with ⟨h2, _⟩ | ⟨g', cap, cur, e1, h3, h4, h5⟩
  · cases h2
  · cases e1
    exact .inr ⟨g, _, cur, rfl, h3, (hu.block _ hg hX).trans h4, h5⟩
theorem ArrT.upd {X : Nat → Prop} {e : TypeId} {lo : Nat} {w w' : World} {g c : Nat} {xs : List Tr} (h : ArrT e lo w g c xs) (hu : Upd X w w') (hX : ∀ b, X b → b < lo) : ArrT e lo w' g c xs := by
  obtain ⟨css, h1, h2⟩ := h
  have hg := own_at h1
  exact ⟨css, own_upd3 h1 hu fun hx => by have := hX g hx; omega, h2.upd hu fun b hb hx => by have := hX b hx; omega⟩
/-- A tree behind the others, as append lays it. -/
theorem ArrT.push {e : TypeId} {lo : Nat} {w w2 w3 : World} {g c g' c' : Nat} {xs : List Tr} {x : Tr} {cs : List Value} {css : List (List Value)} (h2 : TsIn (fun b => lo ≤ b ∧ b ≠ g) w2 xs css)
    (hx : TIn (fun b => w.heap.size ≤ b) w2 x cs) (hg : g < w.heap.size) (hlo : lo ≤ w.heap.size) (h3 : w3.ownsRow lo e 6 (.slice (some ⟨g', 0, none⟩) (xs.length + 1) c') (xs.length + 1) (css.flatten ++ cs)) (h4 : w2.grownBy w3 (Value.slice (some ⟨g, 0, none⟩) xs.length c).ownBlock)
    (h5 : some g' = (Value.slice (some ⟨g, 0, none⟩) xs.length c).ownBlock ∨ g' = w2.heap.size) : ArrT e lo w3 g' c' (xs ++ [x]) := by
  have hu : Upd (fun b => b = g) w2 w3 := (Upd.refl _ w2).grown h4 fun k hk _ => by cases hk; rfl
  have hg' : ∀ b, b ≠ g → b < w2.heap.size → b ≠ g' := fun b hb hs e => by
    rcases h5 with h5 | h5
    · cases h5; exact hb e
    · omega
  refine ⟨css ++ [cs], ?_, ?_⟩
  · rw [List.length_append, List.flatten_append]
    simpa using h3
  · have a1 : TsIn (fun b => lo ≤ b ∧ b ≠ g ∧ b ≠ g') w2 xs css := h2.mono fun b hb hs => ⟨hb.1, hb.2, hg' b hb.2 hs⟩
    have a2 : TsIn (fun b => lo ≤ b ∧ b ≠ g ∧ b ≠ g') w2 [x] [cs] := tsIn_one (hx.mono fun b hb hs => ⟨by omega, by omega, hg' b (by omega) hs⟩)
    refine ((tsIn_app a1 a2).upd hu fun b hb e => hb.2.1 e).mono fun b hb _ => ⟨hb.1, hb.2.2⟩
/-- A row of one tree. -/
theorem ArrT.first {e : TypeId} {lo : Nat} {w1 : World} {x : Tr} {cs : List Value} (hT : TIn (fun b => lo ≤ b) w1 x cs) (hlo : lo ≤ w1.heap.size) : ArrT e lo (w1.alloc (.cells cs.toArray e)) w1.heap.size 1 [x] := by
  refine ⟨[cs], ?_, ?_⟩
  · have := own_full w1 hlo e 6 1 cs (by rw [tIn_len hT]) (by decide)
    simpa using this
  · exact (tsIn_one (hT.mono (N' := fun b => lo ≤ b ∧ b ≠ w1.heap.size) fun b hb hs => ⟨hb, by omega⟩)).upd ((Upd.refl (fun _ => False) w1).alloc _) (fun _ _ h => h)
/-- A call has read a tree, and append has laid it behind the others. -/
theorem arr_step {e : TypeId} {lo bp : Nat} {wr w1 w8 : World} {g c g8 c8 : Nat} {xs : List Tr} {css : List (List Value)} {x : Tr} {cs : List Value} (how : wr.ownsRow lo e 6 (.slice (some ⟨g, 0, none⟩) xs.length c) xs.length css.flatten) (hts : TsIn (fun b => lo ≤ b ∧ b ≠ g) wr xs css) (hlt : bp < lo)
    (hU : Upd (fun b => b = bp) wr w1) (hT : TIn (fun b => wr.heap.size ≤ b) w1 x cs) (hE : AppE lo e 6 (w1.alloc (.cells cs.toArray e)) (.slice (some ⟨g, 0, none⟩) xs.length c) xs.length 1 (css.flatten ++ cs) g8 c8 w8) :
    ArrT e lo w8 g8 c8 (xs ++ [x]) ∧ (∀ w, w.heap.size ≤ lo → Upd (fun b => b = bp) w wr → Upd (fun b => b = bp) w w8) ∧ Upd (fun b => b = g) w1 w8 := by
  have hg := own_at how
  have ha : Upd (fun _ => False) w1 (w1.alloc (.cells cs.toArray e)) := (Upd.refl _ w1).alloc _
  refine ⟨ArrT.push (w := wr) ((hts.upd hU fun b hb e => by omega).upd ha fun _ _ h => h) (hT.upd ha fun _ _ h => h) hg.2 (by omega) hE.own hE.grown hE.at_, fun w hw hu => ?_, ?_⟩
  · exact ((hu.trans hU).alloc _).grown hE.grown fun k hk hs => by
      cases hk
      exact absurd hs (by show ¬ g < w.heap.size; omega)
  · exact ((Upd.refl (fun b => b = g) w1).alloc _).grown hE.grown fun k hk _ => by cases hk; rfl
/-- A node over a row. -/
theorem ArrT.node {e : TypeId} {lo : Nat} {w : World} {g c : Nat} {xs : List Tr} (h : ArrT e lo w g c xs) (hl : xs.length ≤ 100000) (k a n : Nat) (s : Bs) : TIn (fun b => lo ≤ b) w (.mk k a s n [] xs) (ndC k a s n (some ⟨g, 0, none⟩) xs.length c none 0 0) := by
  obtain ⟨css, h1, h2⟩ := h
  unfold TIn
  refine ⟨_, _, none, 0, rfl, own_cap h1 hl, by simp, Lies.nil _ _, fun b o e => (by cases e), css, ?_, fun b o e _ => ?_, h2.mono fun b hb _ => hb.1⟩
  · rcases h1.2 with ⟨h, _⟩ | ⟨g', cap, cur, h, _⟩
    · cases h
    · exact fun j u hj => ⟨_, rfl, h1.cells (g := g) rfl j u hj⟩
  · cases e; exact (own_at h1).1
theorem tIn_leaf {N : Nat → Prop} (w : World) (k a n : Nat) (s : Bs) : TIn N w (.mk k a s n [] []) (ndC k a s n none 0 0 none 0 0) := by
  unfold TIn
  exact ⟨none, 0, none, 0, rfl, ⟨by simp, by simp, by decide⟩, by simp, Lies.nil _ _, fun b o e => (by cases e), [], Lies.nil _ _, fun b o e => (by cases e), by unfold TsIn; rfl⟩
end Go.Proofs.YtpoepignpdfleaaGreatDoor.Pa
