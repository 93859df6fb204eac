/- DERIVED. Args, Mem, Upd, MmSpec, HeldTail in one text. By an AI agent. -/
import Derived.ProofKit
import Derived.OpenShut
import Derived.Below
import Derived.SizedLaws
import Derived.WideShapes
import Derived.ChangeSame
import Derived.Laws.OwnMore
import Derived.Deep.Draws
import Derived.Deep.AppendLies
import Derived.OwnWalk
import Derived.RegionTactic
import Derived.Laws.BytesArg
import Derived.RangeFuncBox
import Derived.Deep.RegionHeld
/- DERIVED. Of no program: what arguments that are slices of integers, or of structs of a text and an integer, or structs of both, say of the memory, in plain lists; with the bound on their bytes. By an AI agent. -/
namespace Go.Proofs.YtkafmpdjpjgkgaaDoor.Args
open Go Go.ChangeShapes Go.WideShapes Go.ChangeAt Go.RowKit
set_option linter.unusedVariables false
theorem add0 (a : Addr) : a.add 0 = a := by simp [Addr.add]
/-- Behind an address (of none nothing is wanted) these values lie, one a cell. -/
def Lies (w : World) (A : Option Addr) (xs : List Value) : Prop := ∀ j u, xs[j]? = some u → ∃ a, A = some a ∧ w.cell? (a.add j) = some u
theorem Lies.nil (w : World) (A : Option Addr) : Lies w A [] := fun j u h => by simp at h
theorem Lies.below {w w' : World} {A : Option Addr} {xs : List Value} (h : Lies w A xs) (hb : Below w.heap.size w w') : Lies w' A xs := fun j u hj => by
  obtain ⟨a, ha, hc⟩ := h j u hj
  exact ⟨a, ha, by rw [hb.cell (World.block_lt_of_cell? w _ hc)]; exact hc⟩
theorem Lies.kept {w w' : World} {A : Option Addr} {xs : List Value} (h : Lies w A xs) {B : Nat} (hB : B ≤ w.heap.size) (hb : Below B w w') (hA : ∀ j u a, xs[j]? = some u → A = some a → (a.add j).block < B) : Lies w' A xs := fun j u hj => by
  obtain ⟨a, ha, hc⟩ := h j u hj
  exact ⟨a, ha, by rw [hb.cell (hA j u a hj ha)]; exact hc⟩
theorem Lies.drewN {w : World} {A : Option Addr} {xs : List Value} (h : Lies w A xs) (n : Nat) : Lies (w.drewN n) A xs := h
theorem add_plain (b o j : Nat) : (⟨b, o, none⟩ : Addr).add j = ⟨b, o + j, none⟩ := by unfold Addr.add; split <;> simp_all
/-- Where a value lies, in plain numbers. -/
theorem Lies.at_ {w : World} {A : Option Addr} {xs : List Value} (h : Lies w A xs) {j : Nat} {u : Value} (hj : xs[j]? = some u) : ∃ b o, A = some ⟨b, o, none⟩ ∧ b < w.heap.size ∧ ∀ i v, xs[i]? = some v → w.cell? ⟨b, o + i, none⟩ = some v := by
  have h0 : 0 < xs.length := by have := (List.getElem?_eq_some_iff.1 hj).1; omega
  obtain ⟨a, rfl, hc⟩ := h 0 _ (List.getElem?_eq_getElem h0)
  rw [add0] at hc
  obtain ⟨b, o, sp⟩ := a
  have hsp : sp = none := by simpa using World.cell?_spot hc
  subst hsp
  refine ⟨b, o, rfl, World.block_lt_of_cell? w _ hc, fun i v hi => ?_⟩
  obtain ⟨a', e, hc'⟩ := h i v hi
  obtain rfl := Option.some.inj e
  rw [add_plain] at hc'
  exact hc'
/-- A slice of integers of b bytes each. -/
structure Ints (k : IntKind) (b : Nat) (w : World) (v : Value) (zs : List Int) : Prop where
  ex : ∃ A cap, v = .slice A zs.length cap ∧ zs.length ≤ cap ∧ cap ≤ maxLen ∧ Lies w A (zs.map (.int k))
  wf : ∀ z ∈ zs, (Lit.int k z).wf = true
  reach : zs.length * b ≤ 140737488351232
/-- A text and an integer: two cells. -/
structure TI where
  s : ByteArray
  n : Int
def TI.cells (c : TI) : List Value := [.string c.s, .int .i64 c.n]
section
variable {H : Type} {enc : TypeId × Value → H} {P : Program} {w : World} {base : Nat} {spare : Nat → Bool} {held : Bool} {fuel : Nat}
theorem all_weights {t : TypeId} {ts : List TypeId} {d : DataW H} {ds : List (DataW H)} (h : (DataW.weightsEach P (t :: ts) (d :: ds)).all (· ≤ reachBytes) = true) :
    (d.weights P t).all (· ≤ reachBytes) = true ∧ (DataW.weightsEach P ts ds).all (· ≤ reachBytes) = true := by
  simp only [DataW.weightsEach, List.all_append, Bool.and_eq_true] at h
  exact h
theorem ints_of {t e : TypeId} {k : IntKind} {b : Nat} {cs : List Value} {x : DataW H × List MemPlace} (ht : P.underlying t = some (.slice e)) (he : P.underlying e = some (.int k)) (hc : P.cellsOf e = 1) (hb : P.bytesOf e = b)
    (h : DataW.trod enc P w base spare held fuel t cs = some x) (hs : (x.1.weights P t).all (· ≤ reachBytes) = true) : ∃ v zs, cs = [v] ∧ Ints k b w v zs := by
  rcases DataW.trod_slice ht h with ⟨rfl, _⟩ | ⟨a, len, cap, elems, rest, n, _, rfl, rfl, hbl, hl, hm, hlen, hel, hsp, hns⟩
  · exact ⟨_, [], rfl, ⟨⟨none, 0, rfl, Nat.le_refl _, by decide, Lies.nil _ _⟩, (fun z hz => by cases hz), by simp⟩⟩
  · simp only [DataW.weights, ht, List.all_cons, Bool.and_eq_true, decide_eq_true_eq] at hs
    have each : ∀ i, i < len → ∃ z : Int, w.cell? (a.add i) = some (.int k z) ∧ (Lit.int k z).wf = true := fun i hi => by
      have h1 := hel i hi
      rw [hc, Nat.mul_one] at h1
      have hei : elems[i]? = some (elems[i]'(by omega)) := List.getElem?_eq_getElem (by omega)
      rw [hei, Option.bind_eq_some_iff] at h1
      obtain ⟨c1, hc1, ht1⟩ := h1
      obtain ⟨z, rfl, _, hw⟩ := DataW.trod_int he ht1
      have h2 := (World.cells?_some hc1).2.2 0 (by omega)
      rw [add0] at h2
      exact ⟨z, h2, hw⟩
    let zs : List Int := (List.range len).map fun i => if hi : i < len then (each i hi).choose else 0
    have hzl : zs.length = len := by simp [zs]
    have hzi : ∀ i z, zs[i]? = some z → w.cell? (a.add i) = some (.int k z) ∧ (Lit.int k z).wf = true := fun i z hz => by
      have hi : i < len := by rw [← hzl]; exact (List.getElem?_eq_some_iff.1 hz).1
      have : z = (each i hi).choose := by
        simp only [zs, List.getElem?_map, List.getElem?_range hi, Option.map_some, Option.some.injEq, dif_pos hi] at hz
        exact hz.symm
      rw [this]
      exact (each i hi).choose_spec
    refine ⟨_, zs, rfl, ⟨⟨some a, cap, by rw [hzl], by omega, hm, fun j u hj => ?_⟩, fun z hz => ?_, ?_⟩⟩
    · rw [List.getElem?_map, Option.map_eq_some_iff] at hj
      obtain ⟨z, hz, rfl⟩ := hj
      exact ⟨a, rfl, (hzi j z hz).1⟩
    · obtain ⟨i, hi⟩ := List.getElem?_of_mem hz
      exact (hzi i z hi).2
    · rw [hzl]
      have h1 := hs.1
      simp only [List.length_map] at h1
      rw [hb, hlen] at h1
      unfold reachBytes at h1
      have : len * b ≤ (len + rest.length) * b := Nat.mul_le_mul_right b (by omega)
      omega
end
end Go.Proofs.YtkafmpdjpjgkgaaDoor.Args
/- DERIVED. Of no program: a fresh copy of a slice ('append([]T{}, xs...)'), in a plain region and at a step of a region that draws; bytes as a text; closed forms. By an AI agent. -/
namespace Go.Proofs.YtkafmpdjpjgkgaaDoor.Args
open Go Go.ChangeShapes Go.WideShapes Go.ChangeAt Go.RowKit
set_option linter.unusedVariables false
/-- A slice value of n elements whose cells are these. -/
def Sl (w : World) (v : Value) (n : Nat) (xs : List Value) : Prop := ∃ A c, v = .slice A n c ∧ n ≤ c ∧ c ≤ maxLen ∧ Lies w A xs
theorem Sl.below {w w' : World} {v : Value} {n : Nat} {xs : List Value} (h : Sl w v n xs) (hb : Below w.heap.size w w') : Sl w' v n xs := by
  obtain ⟨A, c, e, h1, h2, h3⟩ := h
  exact ⟨A, c, e, h1, h2, h3.below hb⟩
theorem Sl.drew {w : World} {v : Value} {n : Nat} {xs : List Value} (h : Sl w v n xs) : Sl w.drew v n xs := h
theorem lies_own {w : World} {base : Nat} {e : TypeId} {size n c : Nat} {A : Option Addr} {xs : List Value} (h : w.ownsRow base e size (.slice A n c) n xs) : Lies w A xs := by
  rcases h.2 with ⟨e1, rfl⟩ | ⟨g, cap, cur, e1, _⟩
  · have : xs = [] := List.eq_nil_of_length_eq_zero (by simpa using h.1)
    subst this
    exact Lies.nil _ _
  · injection e1 with e1 e2 e3
    subst e1
    exact fun j u hj => ⟨_, rfl, h.cells (g := g) rfl j u hj⟩
theorem sl_own {w : World} {base : Nat} {e : TypeId} {size n : Nat} {v : Value} {xs : List Value} (h : w.ownsRow base e size v n xs) : Sl w v n xs := by
  rcases h.2 with ⟨rfl, rfl⟩ | ⟨g, cap, cur, rfl, _, _, h1, h2, _⟩
  · exact ⟨none, 0, rfl, Nat.le_refl _, by decide, lies_own h⟩
  · exact ⟨_, cap, rfl, h1, h2, lies_own h⟩
section
variable {P : Program} {w : World}
theorem run_fresh (base : Nat) (t ty e : TypeId) (i : TypeInfo) (z : Value) (size bytes : Nat) (ht : P.underlying t = some (.slice e)) (hi : P.info? e = some i) (hz : i.zero = some z)
    (hsize : i.size = size) (hby : i.bytes = bytes) (hzs : z.cells.size = size) (hsz : 0 < size) (v : Value) (n : Nat) (xs : List Value) (hown : w.ownsRow base e size v n xs)
    (A : Option Addr) (m c : Nat) (news : List Value) (hl : news.length = m * size) (hL : Lies w A news) (h1 : ∀ u ∈ news, u.oneCell' = true) (h63 : n + m ≤ maxLen) (hbytes : (n + m) * bytes ≤ 140737488355328) (hbase : base ≤ w.heap.size) :
    ∃ v' w', (Builtin.append_ #[t, t] ty #[v, .slice A m c]).run P w = .ok v' w' ∧ w'.ownsRow base e size v' (n + m) (xs ++ news) ∧ w.grownBy w' v.ownBlock := by
  rcases A with _ | ad
  · have hm : news = [] := by
      cases news with
      | nil => rfl
      | cons u r => obtain ⟨a, h, _⟩ := hL 0 u rfl; cases h
    subst hm
    have hm : m = 0 := by
      rcases Nat.eq_zero_or_pos m with h | h
      · exact h
      · have := Nat.mul_pos h hsz; simp at hl; omega
    subst hm
    have hr : (Builtin.append_ #[t, t] ty #[v, .slice none 0 c]).run P w = .ok v w := by
      rcases hown.2 with ⟨rfl, rfl⟩ | ⟨g, cap, cur, rfl, _, _, hnc, _⟩
      · simp [Builtin.append_, run_underlying ht, sizeOf, typeInfo, hi, Builtin.lenOf, Builtin.firstCells]
      · simp [Builtin.append_, run_underlying ht, sizeOf, typeInfo, hi, Builtin.lenOf, Builtin.firstCells, hnc, storeCells]
    exact ⟨v, w, hr, by simpa using hown, World.grownBy.refl w _⟩
  · obtain ⟨v', w', hr, h2, h3, _⟩ := run_append_own (P := P) w base t ty e i z size bytes ht hi hz hsize hby hzs hsz v n xs hown ad m c news hl (fun j u hj => by
      obtain ⟨a, ha, hc⟩ := hL j u hj
      cases ha; exact hc) h1 h63 hbytes hbase
    exact ⟨v', w', hr, h2, h3⟩
theorem wp_fresh {o : Oper} {a : Act} {K : Act → World → Prop} {Q : Exit → Act → World → Prop} (s x : Operand) (t : TypeId)
    (ho : o.op = .call { callee := .builtin .append, args := #[s, x], argTypes := #[t, t] })
    (base : Nat) (e : TypeId) (i : TypeInfo) (z : Value) (size bytes : Nat) (ht : P.underlying t = some (.slice e)) (hi : P.info? e = some i) (hz : i.zero = some z)
    (hsize : i.size = size) (hby : i.bytes = bytes) (hzs : z.cells.size = size) (hsz : 0 < size) (v : Value) (n : Nat) (xs : List Value) (hs : a.eval s = v) (hown : w.ownsRow base e size v n xs)
    (A : Option Addr) (m c : Nat) (news : List Value) (hx : a.eval x = .slice A m c) (hl : news.length = m * size) (hL : Lies w A news) (h1 : ∀ u ∈ news, u.oneCell' = true) (h63 : n + m ≤ maxLen) (hbytes : (n + m) * bytes ≤ 140737488355328) (hbase : base ≤ w.heap.size)
    (h : ∀ A' c' w', n + m ≤ c' → c' ≤ maxLen → w'.ownsRow base e size (.slice A' (n + m) c') (n + m) (xs ++ news) → w.grownBy w' v.ownBlock → K (a.put o.dst (.slice A' (n + m) c')) w') : o.wp P a w K Q := by
  obtain ⟨v', w', hrun, h2, h3⟩ := run_fresh (P := P) base t o.type e i z size bytes ht hi hz hsize hby hzs hsz v n xs hown A m c news hl hL h1 h63 hbytes hbase
  unfold Oper.wp execOp
  simp only [ho, resolve, invoke, builtin, Sem.run_bind, Sem.run_pure, Result.andThen_ok, List.map_toArray, List.map_cons, List.map_nil, hs, hx, hrun]
  obtain ⟨A', c', rfl, h4, h5, _⟩ := sl_own h2
  exact h A' c' w' h4 h5 h2 h3
theorem wpList_fresh {ops : Array Oper} {rest : List Oper} {o : Oper} {a : Act} {Q : Exit → Act → World → Prop} (hgd : o.guard = none) (s x : Operand) (t : TypeId)
    (ho : o.op = .call { callee := .builtin .append, args := #[s, x], argTypes := #[t, t] })
    (base : Nat) (e : TypeId) (i : TypeInfo) (z : Value) (size bytes : Nat) (ht : P.underlying t = some (.slice e)) (hi : P.info? e = some i) (hz : i.zero = some z)
    (hsize : i.size = size) (hby : i.bytes = bytes) (hzs : z.cells.size = size) (hsz : 0 < size) (v : Value) (n : Nat) (xs : List Value) (hs : a.eval s = v) (hown : w.ownsRow base e size v n xs)
    (A : Option Addr) (m c : Nat) (news : List Value) (hx : a.eval x = .slice A m c) (hl : news.length = m * size) (hL : Lies w A news) (h1 : ∀ u ∈ news, u.oneCell' = true) (h63 : n + m ≤ maxLen) (hbytes : (n + m) * bytes ≤ 140737488355328) (hbase : base ≤ w.heap.size)
    (h : ∀ A' c' w', n + m ≤ c' → c' ≤ maxLen → w'.ownsRow base e size (.slice A' (n + m) c') (n + m) (xs ++ news) → w.grownBy w' v.ownBlock → wpList P ops Q rest (a.put o.dst (.slice A' (n + m) c')) w') : wpList P ops Q (o :: rest) a w :=
  wpList_plain hgd fun _ hK => wp_fresh s x t ho base e i z size bytes ht hi hz hsize hby hzs hsz v n xs hs hown A m c news hx hl hL h1 h63 hbytes hbase fun A' c' w' h2 h3 h4 h5 => hK _ _ (h A' c' w' h2 h3 h4 h5)
theorem step_fresh {ops : Array Oper} {o : Oper} {a : Act} {K : Act → World → Prop} {Q : Exit → Act → World → Prop} {E : Prop} (hgd : o.guard = none) (s x : Operand) (t : TypeId)
    (ho : o.op = .call { callee := .builtin .append, args := #[s, x], argTypes := #[t, t] })
    (base : Nat) (e : TypeId) (i : TypeInfo) (z : Value) (size bytes : Nat) (ht : P.underlying t = some (.slice e)) (hi : P.info? e = some i) (hz : i.zero = some z)
    (hsize : i.size = size) (hby : i.bytes = bytes) (hzs : z.cells.size = size) (hsz : 0 < size) (v : Value) (n : Nat) (xs : List Value) (hs : a.eval s = v) (hown : w.ownsRow base e size v n xs)
    (A : Option Addr) (m c : Nat) (news : List Value) (hx : a.eval x = .slice A m c) (hl : news.length = m * size) (hL : Lies w A news) (h1 : ∀ u ∈ news, u.oneCell' = true) (h63 : n + m ≤ maxLen) (hbytes : (n + m) * bytes ≤ 140737488355328) (hbase : base ≤ w.heap.size)
    (h : ∀ A' c' w', n + m ≤ c' → c' ≤ maxLen → w'.ownsRow base e size (.slice A' (n + m) c') (n + m) (xs ++ news) → w.grownBy w' v.ownBlock → K (a.put o.dst (.slice A' (n + m) c')) w') :
    if Region.wanted o (yielded ops a.tmps) = true then Oper.wp P o a w K Q else E := by
  have hw : Region.wanted o (yielded ops a.tmps) = true := by simp [Region.wanted, hgd]
  rw [if_pos hw]
  exact wp_fresh s x t ho base e i z size bytes ht hi hz hsize hby hzs hsz v n xs hs hown A m c news hx hl hL h1 h63 hbytes hbase h
/-- The empty slice literal, behind its make. -/
theorem own_empty (w : World) {base : Nat} (hb : base ≤ w.heap.size) (e : TypeId) (size : Nat) : (w.alloc (.cells #[] e)).ownsRow base e size (.slice (some ⟨w.heap.size, 0, none⟩) 0 0) 0 [] :=
  World.ownsRow_made w #[] 0 hb (by decide) (by simp)
theorem grown_new {w0 w w' : World} {o : Obj} (hb : Below w0.heap.size w0 w) (hg : (w.alloc o).grownBy w' (some w.heap.size)) : Below w0.heap.size w0 w' :=
  (hb.alloc hb.size o).grown hg (by simp; have := hb.size; omega) (fun k e => by cases e; exact hb.size)
end
end Go.Proofs.YtkafmpdjpjgkgaaDoor.Args
/- DERIVED. Of no program: a world in which only some blocks that lay have turned. By an AI agent. -/
namespace Go.Proofs.YtkafmpdjpjgkgaaDoor.Args
open Go Go.ChangeShapes Go.WideShapes Go.ChangeAt Go.RowKit
set_option linter.unusedVariables false
/-- New blocks; of those that lay, the ones of X alone may have turned. -/
structure Upd (X : Nat → Prop) (w w' : World) : Prop where
  os : w'.os = w.os
  tape : w'.tape = w.tape
  output : w'.output = w.output
  size : w.heap.size ≤ w'.heap.size
  block : ∀ k, k < w.heap.size → ¬ X k → w'.heap[k]? = w.heap[k]?
section
variable {X Y : Nat → Prop} {w w1 w' : World}
theorem Upd.refl (X : Nat → Prop) (w : World) : Upd X w w := ⟨rfl, rfl, rfl, Nat.le_refl _, fun _ _ _ => rfl⟩
theorem Upd.trans (h : Upd X w w1) (k : Upd X w1 w') : Upd X w w' :=
  ⟨k.os.trans h.os, k.tape.trans h.tape, k.output.trans h.output, Nat.le_trans h.size k.size, fun i hi hx => (k.block i (Nat.lt_of_lt_of_le hi h.size) hx).trans (h.block i hi hx)⟩
theorem Upd.mono (h : Upd X w w') (hXY : ∀ k, X k → Y k) : Upd Y w w' := ⟨h.os, h.tape, h.output, h.size, fun i hi hx => h.block i hi fun hq => hx (hXY i hq)⟩
/-- What was made since may have turned too. -/
theorem Upd.fresh (h : Upd X w w') (hX : ∀ k, X k → k < w.heap.size → Y k) : Upd Y w w' := ⟨h.os, h.tape, h.output, h.size, fun i hi hx => h.block i hi fun hq => hx (hX i hq hi)⟩
theorem Upd.drew (h : Upd X w w') : Upd X w w'.drew := ⟨h.os, h.tape, h.output, h.size, h.block⟩
theorem Upd.drewN (h : Upd X w w') (n : Nat) : Upd X w (w'.drewN n) := ⟨h.os, h.tape, h.output, h.size, h.block⟩
theorem Upd.alloc (h : Upd X w w') (o : Obj) : Upd X w (w'.alloc o) :=
  ⟨h.os, h.tape, h.output, by simp; exact Nat.le_succ_of_le h.size, fun i hi hx => (Below.heap_alloc w' o i (Nat.lt_of_lt_of_le hi h.size)).trans (h.block i hi hx)⟩
theorem Upd.setCell (h : Upd X w w') {p : Addr} (hp : p.block < w.heap.size → X p.block) (u : Value) : Upd X w (w'.setCell p u) :=
  ⟨h.os, h.tape, h.output, by have := (Below.setCell (p := p) (Below.refl 0 w') (Nat.zero_le _) u).size; exact Nat.le_trans h.size this, fun i hi hx => (Below.heap_setCell w' p u i (fun e => hx (by subst e; exact hp hi))).trans (h.block i hi hx)⟩
theorem Upd.of_below (h : Below w.heap.size w w') (X : Nat → Prop) : Upd X w w' := ⟨h.os, h.tape, h.output, h.size, fun i hi _ => h.block i hi⟩
theorem Upd.below (h : Upd X w w') {B : Nat} (hB : B ≤ w.heap.size) (hX : ∀ k, X k → B ≤ k) : Below B w w' :=
  ⟨h.os, h.tape, h.output, h.size, fun i hi => h.block i (Nat.lt_of_lt_of_le hi hB) fun hx => by have := hX i hx; omega⟩
theorem Upd.grown (h : Upd X w w1) {row : Option Nat} (hg : w1.grownBy w' row) (hr : ∀ k, row = some k → k < w.heap.size → X k) : Upd X w w' :=
  ⟨hg.os.trans h.os, hg.tape.trans h.tape, hg.output.trans h.output, Nat.le_trans h.size hg.size, fun i hi hx => (hg.block i (Nat.lt_of_lt_of_le hi h.size) fun e => hx (hr i e.symm hi)).trans (h.block i hi hx)⟩
theorem Upd.cell (h : Upd X w w') {p : Addr} (hp : p.block < w.heap.size) (hx : ¬ X p.block) : w'.cell? p = w.cell? p := World.cell?_of_block (h.block _ hp hx)
theorem Upd.lies (h : Upd X w w') {A : Option Addr} {xs : List Value} (hL : Lies w A xs) (hA : ∀ b o, A = some ⟨b, o, none⟩ → 0 < xs.length → ¬ X b) : Lies w' A xs := fun j u hj => by
  obtain ⟨b, o, rfl, hb, hc⟩ := hL.at_ hj
  refine ⟨_, rfl, ?_⟩
  rw [Args.add_plain]
  exact (h.cell (p := ⟨b, o + j, none⟩) hb (hA b o rfl (by have := (List.getElem?_eq_some_iff.1 hj).1; omega))).trans (hc j u hj)
end
/-- A block of cells, whole. -/
def Blk (w : World) (g : Nat) (t : TypeId) (cs : Array Value) : Prop := w.heap[g]? = some (.cells cs t (0, 0))
section
variable {X : Nat → Prop} {w w' : World} {g : Nat} {t : TypeId} {cs : Array Value}
theorem Blk.lt (h : Blk w g t cs) : g < w.heap.size := (Array.getElem?_eq_some_iff.1 h).1
theorem Blk.cell (h : Blk w g t cs) (i : Nat) : w.cell? ⟨g, i, none⟩ = cs[i]? := cell_of_row w g i cs t (0, 0) h
theorem Blk.frozen (h : Blk w g t cs) (i : Nat) : w.frozen? ⟨g, i, none⟩ = false := by
  unfold Blk at h
  simp [World.frozen?, h]
theorem Blk.new (w : World) (t : TypeId) (cs : Array Value) : Blk (w.alloc (.cells cs t)) w.heap.size t cs := heap_alloc_new w _
theorem Blk.set (h : Blk w g t cs) (i : Nat) (u : Value) : Blk (w.setCell ⟨g, i, none⟩ u) g t (cs.setIfInBounds i u) := by
  unfold Blk at h ⊢
  simp [World.setCell, Array.getElem?_modify, h]
theorem Blk.far (h : Blk w g t cs) {p : Addr} (hp : g ≠ p.block) (u : Value) : Blk (w.setCell p u) g t cs := (Below.heap_setCell w p u g hp).trans h
theorem Blk.drew (h : Blk w g t cs) : Blk w.drew g t cs := h
theorem Blk.alloc (h : Blk w g t cs) (o : Obj) : Blk (w.alloc o) g t cs := (Below.heap_alloc w o g h.lt).trans h
theorem Blk.upd (h : Blk w g t cs) (hu : Upd X w w') (hx : ¬ X g) : Blk w' g t cs := (hu.block g h.lt hx).trans h
theorem Blk.below {B : Nat} (h : Blk w g t cs) (hb : Below B w w') (hg : g < B) : Blk w' g t cs := (hb.block g hg).trans h
end
end Go.Proofs.YtkafmpdjpjgkgaaDoor.Args
/- DERIVED. Memory's plain answers, and a memory as it lies. By an AI agent. -/
namespace Go.Proofs.YtkafmpdjpjgkgaaDoor.Mm
open Go.ChangeShapes Go.WideShapes Go.ChangeAt Go.RowKit Args
set_option linter.unusedVariables false
/-- What a memory holds: code, words, tape, how many were drawn, what is on the bus. -/
structure St where
  C : List Int
  W : List Int
  T : List Int
  d : Nat
  b : Int
/-- How far an address lies behind another one, going round. -/
def far (a f : Int) : Int := (a - f) % 4294967296
theorem far_lo (a f : Int) : 0 ≤ far a f := by unfold far; omega
theorem far_hi (a f : Int) : far a f < 4294967296 := by unfold far; omega
theorem far_ge {a f : Int} (h0 : f ≤ a) (h1 : a < 4294967296) (h2 : 0 ≤ f) : far a f = a - f := by unfold far; omega
theorem far_lt {a f : Int} (h0 : a < f) (h1 : 0 ≤ a) (h2 : f < 4294967296) : far a f = a - f + 4294967296 := by unfold far; omega
def plcB (a f s : Int) (n : Nat) : Bool := decide (far a f % s = 0) && decide (far a f / s < n)
def plcV (a f s : Int) (n : Nat) : Value := if plcB a f s n then .tuple #[.int .i64 (far a f / s), .bool true] else .tuple #[.int .i64 0, .bool false]
def lookV (s : St) (a : Int) : Int × Int :=
  if a = 1073741824 then (if s.d < s.T.length then (s.T.getD s.d 0, 0) else (0, 51))
  else if plcB a 536870912 4 s.W.length then (s.W.getD (far a 536870912 / 4).toNat 0, 0)
  else if plcB a 0 4 (s.C.length / 2) then (s.C.getD (2 * (far a 0 / 4).toNat) 0 + 65536 * s.C.getD (2 * (far a 0 / 4).toNat + 1) 0, 0)
  else (0, 50)
def loadS (s : St) (a : Int) : St := if (lookV s a).2 = 0 then { s with d := if a = 1073741824 then s.d + 1 else s.d, b := (lookV s a).1 } else s
def storeE (s : St) (a : Int) : Int := if plcB a 536870912 4 s.W.length then 0 else 50
def storeS (s : St) (a u : Int) : St := if plcB a 536870912 4 s.W.length then { s with W := s.W.set (far a 536870912 / 4).toNat u, b := u } else s
def fetchV (s : St) (a : Int) : Int × Int := if plcB a 0 2 s.C.length then (s.C.getD (far a 0 / 2).toNat 0, 0) else (0, 50)
def setS (s : St) (i u : Int) : St := if 0 ≤ i ∧ i < s.W.length then { s with W := s.W.set i.toNat u } else s
/-- What its numbers may be. -/
structure Fit (s : St) : Prop where
  c : ∀ z ∈ s.C, 0 ≤ z ∧ z < 65536
  w : ∀ z ∈ s.W, 0 ≤ z ∧ z < 4294967296
  t : ∀ z ∈ s.T, 0 ≤ z ∧ z < 4294967296
  d : s.d ≤ s.T.length
  b : 0 ≤ s.b ∧ s.b < 4294967296
  cl : s.C.length ≤ 60000
  wl : s.W.length ≤ 16000
  tl : s.T.length ≤ 140737488351232
theorem getD_in {l : List Int} {P : Int → Prop} (h : ∀ z ∈ l, P z) {i : Nat} (hi : i < l.length) : P (l.getD i 0) := by
  rw [List.getD_eq_getElem?_getD, List.getElem?_eq_getElem hi]
  exact h _ (List.getElem_mem hi)
theorem Fit.look {s : St} (h : Fit s) (a : Int) : 0 ≤ (lookV s a).1 ∧ (lookV s a).1 < 4294967296 := by
  unfold lookV
  split
  · split
    · next h1 => exact getD_in h.t h1
    · decide
  · split
    · next h1 =>
      unfold plcB at h1
      simp only [Bool.and_eq_true, decide_eq_true_eq] at h1
      have := far_lo a 536870912
      exact getD_in h.w (by omega)
    · split
      · next h1 =>
        unfold plcB at h1
        simp only [Bool.and_eq_true, decide_eq_true_eq] at h1
        have := far_lo a 0
        have a1 := getD_in h.c (i := 2 * (far a 0 / 4).toNat) (by omega)
        have a2 := getD_in h.c (i := 2 * (far a 0 / 4).toNat + 1) (by omega)
        show 0 ≤ _ + _ ∧ _ + _ < (4294967296 : Int)
        omega
      · decide
theorem look_port {s : St} {a : Int} (h : (lookV s a).2 = 0) (ha : a = 1073741824) : s.d < s.T.length := by
  unfold lookV at h
  rw [if_pos ha] at h
  split at h
  · assumption
  · simp at h
theorem Fit.loadS {s : St} (h : Fit s) (a : Int) : Fit (loadS s a) := by
  unfold Mm.loadS
  split
  · next h1 =>
    refine ⟨h.c, h.w, h.t, ?_, h.look a, h.cl, h.wl, h.tl⟩
    show (if a = 1073741824 then s.d + 1 else s.d) ≤ s.T.length
    split
    · next h2 => exact look_port h1 h2
    · exact h.d
  · exact h
theorem set_in {l : List Int} {P : Int → Prop} (h : ∀ z ∈ l, P z) {i : Nat} {u : Int} (hu : P u) : ∀ z ∈ l.set i u, P z := fun z hz => by
  rcases List.mem_or_eq_of_mem_set hz with h1 | rfl
  · exact h z h1
  · exact hu
theorem Fit.storeS {s : St} (h : Fit s) (a : Int) {u : Int} (hu : 0 ≤ u ∧ u < 4294967296) : Fit (storeS s a u) := by
  unfold Mm.storeS
  split
  · exact ⟨h.c, set_in h.w hu, h.t, h.d, hu, h.cl, by simpa using h.wl, h.tl⟩
  · exact h
theorem Fit.setS {s : St} (h : Fit s) (i : Int) {u : Int} (hu : 0 ≤ u ∧ u < 4294967296) : Fit (setS s i u) := by
  unfold Mm.setS
  split
  · exact ⟨h.c, set_in h.w hu, h.t, h.d, h.b, h.cl, by simpa using h.wl, h.tl⟩
  · exact h
theorem loadS_len (s : St) (a : Int) : (loadS s a).C = s.C ∧ (loadS s a).W = s.W ∧ (loadS s a).T = s.T := by
  unfold loadS; split <;> exact ⟨rfl, rfl, rfl⟩
theorem storeS_len (s : St) (a u : Int) : (storeS s a u).C = s.C ∧ (storeS s a u).W.length = s.W.length ∧ (storeS s a u).T = s.T := by
  unfold storeS; split
  · exact ⟨rfl, by simp, rfl⟩
  · exact ⟨rfl, rfl, rfl⟩
theorem setS_len (s : St) (i u : Int) : (setS s i u).C = s.C ∧ (setS s i u).W.length = s.W.length ∧ (setS s i u).T = s.T := by
  unfold setS; split
  · exact ⟨rfl, by simp, rfl⟩
  · exact ⟨rfl, rfl, rfl⟩
/-- Where a memory lies: its block, its three slices. -/
structure Hd where
  r : Nat
  AC : Option Addr
  cC : Nat
  AW : Option Addr
  cW : Nat
  AT : Option Addr
  cT : Nat
def Hd.X (h : Hd) (k : Nat) : Prop := k = h.r ∨ h.AW = some ⟨k, 0, none⟩
def Hd.B (h : Hd) (k : Nat) : Prop := k = h.r ∨ h.AC = some ⟨k, 0, none⟩ ∨ h.AW = some ⟨k, 0, none⟩ ∨ h.AT = some ⟨k, 0, none⟩
structure PM (t u16 u32 : TypeId) (n0 : Nat) (h : Hd) (s : St) (w : World) : Prop where
  blk : Blk w h.r t #[.slice h.AC s.C.length h.cC, .slice h.AW s.W.length h.cW, .slice h.AT s.T.length h.cT, .int .i64 s.d, .int .u32 s.b]
  oc : w.ownsRow n0 u16 1 (.slice h.AC s.C.length h.cC) s.C.length (s.C.map (.int .u16))
  ow : w.ownsRow n0 u32 1 (.slice h.AW s.W.length h.cW) s.W.length (s.W.map (.int .u32))
  ot : w.ownsRow n0 u32 1 (.slice h.AT s.T.length h.cT) s.T.length (s.T.map (.int .u32))
  rC : h.AC ≠ some ⟨h.r, 0, none⟩
  rW : h.AW ≠ some ⟨h.r, 0, none⟩
  rT : h.AT ≠ some ⟨h.r, 0, none⟩
  cw : ∀ k, h.AW = some ⟨k, 0, none⟩ → h.AC ≠ some ⟨k, 0, none⟩ ∧ h.AT ≠ some ⟨k, 0, none⟩
  low : n0 ≤ h.r
  fit : Fit s
theorem own_form {w : World} {base : Nat} {e : TypeId} {size n c : Nat} {A : Option Addr} {xs : List Value} (h : w.ownsRow base e size (.slice A n c) n xs) : (A = none ∧ n = 0 ∧ c = 0) ∨ ∃ g, A = some ⟨g, 0, none⟩ ∧ base ≤ g ∧ g < w.heap.size := by
  rcases h.2 with ⟨e1, rfl⟩ | ⟨g, cap, cur, e1, hb, hg, _⟩
  · injection e1 with e1 e2 e3
    exact .inl ⟨e1, rfl, e3⟩
  · injection e1 with e1
    exact .inr ⟨g, e1, hb, (Array.getElem?_eq_some_iff.1 hg).1⟩
theorem own_upd {w w' : World} {X : Nat → Prop} {base : Nat} {e : TypeId} {size n c : Nat} {A : Option Addr} {xs : List Value} (h : w.ownsRow base e size (.slice A n c) n xs) (hu : Upd X w w') (hx : ∀ k, A = some ⟨k, 0, none⟩ → ¬ X k) : w'.ownsRow base e size (.slice A n c) n xs := by
  refine ⟨h.1, ?_⟩
  rcases h.2 with hn | ⟨g, cap, cur, e1, hb, hg, rest⟩
  · exact .inl hn
  · refine .inr ⟨g, cap, cur, e1, hb, ?_, rest⟩
    injection e1 with e1
    rw [hu.block g (Array.getElem?_eq_some_iff.1 hg).1 (hx g e1)]
    exact hg
section
variable {t u16 u32 : TypeId} {n0 : Nat} {h : Hd} {s : St} {w w' : World} {X : Nat → Prop}
theorem PM.upd (p : PM t u16 u32 n0 h s w) (hu : Upd X w w') (hx : ∀ k, h.B k → ¬ X k) : PM t u16 u32 n0 h s w' :=
  ⟨p.blk.upd hu (hx _ (.inl rfl)), own_upd p.oc hu fun k e => hx k (.inr (.inl e)), own_upd p.ow hu fun k e => hx k (.inr (.inr (.inl e))), own_upd p.ot hu fun k e => hx k (.inr (.inr (.inr e))), p.rC, p.rW, p.rT, p.cw, p.low, p.fit⟩
theorem PM.lt (p : PM t u16 u32 n0 h s w) {k : Nat} (hk : h.B k) : n0 ≤ k ∧ k < w.heap.size := by
  have f : ∀ {e : TypeId} {n c : Nat} {A : Option Addr} {xs : List Value}, w.ownsRow n0 e 1 (.slice A n c) n xs → A = some ⟨k, 0, none⟩ → n0 ≤ k ∧ k < w.heap.size := fun ho hA => by
    rcases own_form ho with ⟨h1, _⟩ | ⟨g, h1, h2, h3⟩
    · rw [h1] at hA; cases hA
    · rw [h1] at hA; cases hA; exact ⟨h2, h3⟩
  rcases hk with rfl | h1 | h1 | h1
  · exact ⟨p.low, p.blk.lt⟩
  · exact f p.oc h1
  · exact f p.ow h1
  · exact f p.ot h1
theorem Hd.XB {h : Hd} {k : Nat} (hk : h.X k) : h.B k := hk.elim .inl fun e => .inr (.inr (.inl e))
theorem PM.below (p : PM t u16 u32 n0 h s w) (hb : Below w.heap.size w w') : PM t u16 u32 n0 h s w' := p.upd (Upd.of_below hb fun _ => False) fun _ _ => id
theorem PM.drew (p : PM t u16 u32 n0 h s w) : PM t u16 u32 n0 h s w.drew := p.upd ((Upd.refl (fun _ => False) w).drew) fun _ _ => id
theorem PM.drewN (p : PM t u16 u32 n0 h s w) (n : Nat) : PM t u16 u32 n0 h s (w.drewN n) := p.upd ((Upd.refl (fun _ => False) w).drewN n) fun _ _ => id
theorem PM.cellC (p : PM t u16 u32 n0 h s w) {i : Nat} (hi : i < s.C.length) : ∃ g, h.AC = some ⟨g, 0, none⟩ ∧ w.cell? ⟨g, i, none⟩ = some (.int .u16 (s.C.getD i 0)) := by
  rcases own_form p.oc with ⟨_, h1, _⟩ | ⟨g, h1, _⟩
  · omega
  · refine ⟨g, h1, ?_⟩
    have ho := p.oc
    rw [h1] at ho
    rw [ho.cellAt i (by omega), List.getElem?_map, List.getElem?_eq_getElem hi]
    simp [List.getD, List.getElem?_eq_getElem hi]
theorem PM.cellW (p : PM t u16 u32 n0 h s w) {i : Nat} (hi : i < s.W.length) : ∃ g, h.AW = some ⟨g, 0, none⟩ ∧ w.cell? ⟨g, i, none⟩ = some (.int .u32 (s.W.getD i 0)) ∧ w.frozen? ⟨g, i, none⟩ = false := by
  rcases own_form p.ow with ⟨_, h1, _⟩ | ⟨g, h1, _⟩
  · omega
  · have ho := p.ow
    rw [h1] at ho
    refine ⟨g, h1, ?_, ho.frozenAt i⟩
    rw [ho.cellAt i (by omega), List.getElem?_map, List.getElem?_eq_getElem hi]
    simp [List.getD, List.getElem?_eq_getElem hi]
theorem PM.cellT (p : PM t u16 u32 n0 h s w) {i : Nat} (hi : i < s.T.length) : ∃ g, h.AT = some ⟨g, 0, none⟩ ∧ w.cell? ⟨g, i, none⟩ = some (.int .u32 (s.T.getD i 0)) := by
  rcases own_form p.ot with ⟨_, h1, _⟩ | ⟨g, h1, _⟩
  · omega
  · refine ⟨g, h1, ?_⟩
    have ho := p.ot
    rw [h1] at ho
    rw [ho.cellAt i (by omega), List.getElem?_map, List.getElem?_eq_getElem hi]
    simp [List.getD, List.getElem?_eq_getElem hi]
/-- The numbers in its block turn. -/
theorem PM.nums (p : PM t u16 u32 n0 h s w) {s' : St} (hC : s'.C = s.C) (hW : s'.W = s.W) (hT : s'.T = s.T) (hf : Fit s')
    (hb : Blk w' h.r t #[.slice h.AC s.C.length h.cC, .slice h.AW s.W.length h.cW, .slice h.AT s.T.length h.cT, .int .i64 s'.d, .int .u32 s'.b]) (hu : Upd (· = h.r) w w') : PM t u16 u32 n0 h s' w' :=
  ⟨by rw [hC, hW, hT]; exact hb, by rw [hC]; exact own_upd p.oc hu fun k e hk => p.rC (by rw [← hk]; exact e), by rw [hW]; exact own_upd p.ow hu fun k e hk => p.rW (by rw [← hk]; exact e), by rw [hT]; exact own_upd p.ot hu fun k e hk => p.rT (by rw [← hk]; exact e), p.rC, p.rW, p.rT, p.cw, p.low, hf⟩
/-- A word of memory turns. -/
theorem PM.word (p : PM t u16 u32 n0 h s w) {g : Nat} (hg : h.AW = some ⟨g, 0, none⟩) (i : Nat) (u : Int) (hu : 0 ≤ u ∧ u < 4294967296) : PM t u16 u32 n0 h { s with W := s.W.set i u } (w.setCell ⟨g, i, none⟩ (.int .u32 u)) ∧ Upd h.X w (w.setCell ⟨g, i, none⟩ (.int .u32 u)) := by
  have hup : Upd h.X w (w.setCell ⟨g, i, none⟩ (.int .u32 u)) := (Upd.refl h.X w).setCell (p := ⟨g, i, none⟩) (fun _ => .inr hg) _
  have hup1 : Upd (· = g) w (w.setCell ⟨g, i, none⟩ (.int .u32 u)) := (Upd.refl (· = g) w).setCell (p := ⟨g, i, none⟩) (fun _ => rfl) _
  have hgr : g ≠ h.r := fun e => p.rW (by rw [← e]; exact hg)
  have ho := p.ow
  rw [hg] at ho
  refine ⟨⟨?_, own_upd p.oc hup1 fun k e hk => ?_, ?_, own_upd p.ot hup1 fun k e hk => ?_, p.rC, p.rW, p.rT, p.cw, p.low, ⟨p.fit.c, set_in p.fit.w hu, p.fit.t, p.fit.d, p.fit.b, p.fit.cl, by simpa using p.fit.wl, p.fit.tl⟩⟩, hup⟩
  · show Blk _ _ _ #[_, .slice h.AW (s.W.set i u).length h.cW, _, _, _]
    rw [List.length_set]
    exact p.blk.upd hup1 fun e => hgr e.symm
  · exact (p.cw g hg).1 (by rw [← hk]; exact e)
  · show World.ownsRow _ _ _ _ (.slice h.AW (s.W.set i u).length h.cW) (s.W.set i u).length ((s.W.set i u).map (.int .u32))
    rw [List.length_set, List.map_set, hg]
    exact (ho.stored i (.int .u32 u)).1
  · exact (p.cw g hg).2 (by rw [← hk]; exact e)
end
end Go.Proofs.YtkafmpdjpjgkgaaDoor.Mm
/- DERIVED. Of no program: a region that draws its order, whose loads read what its last stores turn: each store waits for every such load, so a condition on the world need hold only till the first store. After the guide's theorem on a region under a condition that is held to its end. By an AI agent. -/
namespace Go.Proofs.YtkafmpdjpjgkgaaDoor.HT
open Go
variable {P : Program} {ops : Array Oper} {Q : Exit → Act → World → Prop} {md : Region.Mode} {Z S : World → Prop} {st : List Nat}
/-- No store has come up yet. -/
def none_ (st : List Nat) (listed : Array Bool) : Prop := ∀ s ∈ st, listed.getD s true = false
/-- Whatever order is picked from here on; behind every operation Z holds, and till the first store S. -/
def anyT (P : Program) (md : Region.Mode) (ops : Array Oper) (Q : Exit → Act → World → Prop) (Z S : World → Prop) (st : List Nat) : Nat → Array Bool → Act → World → Prop
  | 0, listed, a, w => Region.ready md ops listed = [] ∧ Q .normal a w
  | f + 1, listed, a, w => (Region.ready md ops listed = [] → Q .normal a w) ∧
    ∀ i ∈ Region.ready md ops listed, wpOp P ops Q i (fun a' w' => (Z w' ∧ (none_ st (listed.setIfInBounds i true) → S w')) ∧ anyT P md ops Q Z S st f (listed.setIfInBounds i true) a' w') a w
theorem any_of : ∀ (f : Nat) (listed : Array Bool) (a : Act) (w : World), anyT P md ops Q Z S st f listed a w → wpAny P md ops Q f listed a w
  | 0, _, _, _, h => h
  | f + 1, _, _, _, h => ⟨h.1, fun i hi => wpOp_mono (fun a' w' h' => any_of f _ a' w' h'.2) (h.2 i hi)⟩
/-- Each store waits for the operation i. -/
def waitB (md : Region.Mode) (ops : Array Oper) (st : List Nat) (i : Nat) : Bool := st.all fun s => ((ops[s]?).map (·.after.any fun e => Region.binds md e && e.on == i)).getD false
theorem wait_no {i s : Nat} (hw : waitB md ops st i = true) (hs : s ∈ st) {listed : Array Bool} (hi : listed.getD i true = false) : s ∉ Region.ready md ops listed := fun hr => by
  have h1 := List.all_eq_true.1 hw s hs
  obtain ⟨_, o, ho, hall⟩ := mem_ready.1 hr
  rw [ho] at h1
  simp only [Option.map_some, Option.getD_some] at h1
  obtain ⟨e, he, hb⟩ := Array.any_eq_true'.1 h1
  simp only [Bool.and_eq_true, beq_iff_eq] at hb
  have h2 := hall e he hb.1
  rw [hb.2] at h2
  rcases Nat.lt_or_ge i listed.size with h' | h'
  · simp [h'] at h2 hi; rw [hi] at h2; cases h2
  · simp [Array.getElem?_eq_none h'] at h2
theorem none_set {j : Nat} {listed : Array Bool} (h : none_ st listed) (hj : j ∉ st) : none_ st (listed.setIfInBounds j true) := fun s hs => by
  have h1 := h s hs
  have : s ≠ j := fun e => hj (e ▸ hs)
  rw [Array.getD_eq_getD_getElem?] at h1 ⊢
  rw [Array.getElem?_setIfInBounds_ne (Ne.symm this)]
  exact h1
/-- A load may be taken first that every store waits for. -/
theorem first {i : Nat} {oi : Oper} {v : Value} (hi : ops[i]? = some oi) (hsel : ∀ (j : Nat) (o : Oper) cs b, ops[j]? = some o → o.op ≠ .select cs b)
    (hQ : ∀ c a w, Q (.panic c) (a.put oi.dst v) w → Q (.panic c) a w) (hw : waitB md ops st i = true) (hist : i ∉ st) :
    ∀ (f : Nat) (listed : Array Bool) (a : Act) (w : World),
      (∀ j oj, ops[j]? = some oj → j ≠ i → listed.getD j true = false → (∀ e ∈ oj.after, Region.binds md e = true → e.on ≠ i) → oi.apart ops oj = true) →
      i ∈ Region.ready md ops listed → none_ st listed → YieldsIf P ops S oi v a → Z w → S w →
      anyT P md ops Q Z S st f (listed.setIfInBounds i true) (a.put oi.dst v) w → anyT P md ops Q Z S st (f + 1) listed a w := by
  intro f
  induction f with
  | zero =>
    intro listed a w _ hr _ hy hZ hS H
    refine ⟨fun h => (by rw [h] at hr; cases hr), fun j hj => ?_⟩
    by_cases hji : j = i
    · subst hji; exact hy.wpOp hi hS ⟨⟨hZ, fun _ => hS⟩, H⟩
    · have := ready_mono hj hji
      rw [H.1] at this
      cases this
  | succ f ih =>
    intro listed a w hfree hr hn hy hZ hS H
    refine ⟨fun h => (by rw [h] at hr; cases hr), fun j hj => ?_⟩
    by_cases hji : j = i
    · subst hji; exact hy.wpOp hi hS ⟨⟨hZ, fun _ => hS⟩, H⟩
    · have h1 := H.2 j (ready_mono hj hji)
      obtain ⟨hjun, oj, hoj, hall⟩ := mem_ready.1 hj
      have hiun := (mem_ready.1 hr).1
      have hnot : ∀ e ∈ oj.after, Region.binds md e = true → e.on ≠ i := fun e he hb heq => by
        have h1 := hall e he hb
        rw [heq] at h1
        rcases Nat.lt_or_ge i listed.size with h' | h'
        · simp [h'] at hiun h1; rw [hiun] at h1; cases h1
        · simp [Array.getElem?_eq_none h'] at h1
      have hjst : j ∉ st := fun h => wait_no hw h hiun hj
      have h2 := wpOp_putIf hoj (hfree j oj hoj hji hjun hnot) (fun cs b => hsel i oi cs b hi) (fun cs b => hsel j oj cs b hoj) hQ hy h1
      have hnj := none_set hn hjst
      refine wpOp_mono (fun a' w' h3 => ?_) h2
      have hS' : S w' := h3.2.1.2 (none_set (none_set hn hist) hjst)
      refine ⟨⟨h3.2.1.1, fun _ => hS'⟩, ih (listed.setIfInBounds j true) a' w' (fun k ok hk hki hun hno => hfree k ok hk hki ?_ hno) (ready_mono hr (Ne.symm hji)) hnj h3.1 h3.2.1.1 hS' ?_⟩
      · by_cases hjk : j = k
        · subst hjk; exact hjun
        · rw [Array.getD_eq_getD_getElem?, Array.getElem?_setIfInBounds_ne hjk, ← Array.getD_eq_getD_getElem?] at hun; exact hun
      · rw [Array.setIfInBounds_comm _ _ hji]; exact h3.2.2
/-- What yields wherever Z holds may be taken first. -/
theorem firstP {i : Nat} {oi : Oper} {v : Value} (hi : ops[i]? = some oi) (hsel : ∀ (j : Nat) (o : Oper) cs b, ops[j]? = some o → o.op ≠ .select cs b)
    (hQ : ∀ c a w, Q (.panic c) (a.put oi.dst v) w → Q (.panic c) a w) (hist : i ∉ st) :
    ∀ (f : Nat) (listed : Array Bool) (a : Act) (w : World),
      (∀ j oj, ops[j]? = some oj → j ≠ i → listed.getD j true = false → (∀ e ∈ oj.after, Region.binds md e = true → e.on ≠ i) → oi.apart ops oj = true) →
      i ∈ Region.ready md ops listed → Z w → (none_ st listed → S w) → YieldsIf P ops Z oi v a →
      anyT P md ops Q Z S st f (listed.setIfInBounds i true) (a.put oi.dst v) w → anyT P md ops Q Z S st (f + 1) listed a w := by
  intro f
  induction f with
  | zero =>
    intro listed a w _ hr hZ hS hy H
    refine ⟨fun h => (by rw [h] at hr; cases hr), fun j hj => ?_⟩
    by_cases hji : j = i
    · subst hji
      refine hy.wpOp hi hZ ⟨⟨hZ, fun hx => hS fun s hs => ?_⟩, H⟩
      have := hx s hs
      rw [Array.getD_eq_getD_getElem?, Array.getElem?_setIfInBounds_ne (by rintro rfl; exact hist hs), ← Array.getD_eq_getD_getElem?] at this; exact this
    · have := ready_mono hj hji
      rw [H.1] at this
      cases this
  | succ f ih =>
    intro listed a w hfree hr hZ hS hy H
    refine ⟨fun h => (by rw [h] at hr; cases hr), fun j hj => ?_⟩
    by_cases hji : j = i
    · subst hji
      refine hy.wpOp hi hZ ⟨⟨hZ, fun hx => hS fun s hs => ?_⟩, H⟩
      have := hx s hs
      rw [Array.getD_eq_getD_getElem?, Array.getElem?_setIfInBounds_ne (by rintro rfl; exact hist hs), ← Array.getD_eq_getD_getElem?] at this; exact this
    · have h1 := H.2 j (ready_mono hj hji)
      obtain ⟨hjun, oj, hoj, hall⟩ := mem_ready.1 hj
      have hiun := (mem_ready.1 hr).1
      have hnot : ∀ e ∈ oj.after, Region.binds md e = true → e.on ≠ i := fun e he hb heq => by
        have h1 := hall e he hb
        rw [heq] at h1
        rcases Nat.lt_or_ge i listed.size with h' | h'
        · simp [h'] at hiun h1; rw [hiun] at h1; cases h1
        · simp [Array.getElem?_eq_none h'] at h1
      have h2 := wpOp_putIf hoj (hfree j oj hoj hji hjun hnot) (fun cs b => hsel i oi cs b hi) (fun cs b => hsel j oj cs b hoj) hQ hy h1
      refine wpOp_mono (fun a' w' h3 => ?_) h2
      have hS' : none_ st (listed.setIfInBounds j true) → S w' := fun hx => h3.2.1.2 (by rw [Array.setIfInBounds_comm _ _ (Ne.symm hji)]; exact none_set hx hist)
      refine ⟨⟨h3.2.1.1, hS'⟩, ih (listed.setIfInBounds j true) a' w' (fun k ok hk hki hun hno => hfree k ok hk hki ?_ hno) (ready_mono hr (Ne.symm hji)) h3.2.1.1 hS' h3.1 ?_⟩
      · by_cases hjk : j = k
        · subst hjk; exact hjun
        · rw [Array.getD_eq_getD_getElem?, Array.getElem?_setIfInBounds_ne hjk, ← Array.getD_eq_getD_getElem?] at hun; exact hun
      · rw [Array.setIfInBounds_comm _ _ hji]; exact h3.2.2
def noneB (st : List Nat) (listed : Array Bool) : Bool := st.all fun s => !listed.getD s true
theorem none_of {listed : Array Bool} (h : noneB st listed = true) : none_ st listed := fun s hs => by simpa using List.all_eq_true.1 h s hs
theorem take {i : Nat} {oi : Oper} {v : Value} {f : Nat} {listed : Array Bool} {a : Act} {w : World} (hi : ops[i]? = some oi)
    (hs : Region.noSelect ops = true) (hf : Region.free md ops listed i = true) (hr : (Region.ready md ops listed).contains i = true) (hw : waitB md ops st i = true) (hn : noneB st listed = true) (hist : st.contains i = false)
    (hQ : ∀ c a w, Q (.panic c) (a.put oi.dst v) w → Q (.panic c) a w) (hy : YieldsIf P ops S oi v a) (hZ : Z w) (hS : S w)
    (h : anyT P md ops Q Z S st f (listed.setIfInBounds i true) (a.put oi.dst v) w) : anyT P md ops Q Z S st (f + 1) listed a w :=
  first hi (Region.noSelect_spec hs) hQ hw (by simpa using hist) f listed a w (Region.free_spec hi hf) (by simpa using hr) (none_of hn) hy hZ hS h
theorem takeP {i : Nat} {oi : Oper} {v : Value} {f : Nat} {listed : Array Bool} {a : Act} {w : World} (hi : ops[i]? = some oi)
    (hs : Region.noSelect ops = true) (hf : Region.free md ops listed i = true) (hr : (Region.ready md ops listed).contains i = true) (hist : st.contains i = false)
    (hQ : ∀ c a w, Q (.panic c) (a.put oi.dst v) w → Q (.panic c) a w) (hy : YieldsIf P ops Z oi v a) (hZ : Z w) (hS : none_ st listed → S w)
    (h : anyT P md ops Q Z S st f (listed.setIfInBounds i true) (a.put oi.dst v) w) : anyT P md ops Q Z S st (f + 1) listed a w :=
  firstP hi (Region.noSelect_spec hs) hQ (by simpa using hist) f listed a w (Region.free_spec hi hf) (by simpa using hr) hZ hS hy h
/-- One operation alone may come up: no store, S is shown anew. -/
theorem one {i : Nat} {o : Oper} {f : Nat} {listed : Array Bool} {a : Act} {w : World} (hr : Region.ready md ops listed = [i]) (ho : ops[i]? = some o)
    (h : ∀ K : Act → World → Prop, Shut (∀ a' w', Z w' → S w' → anyT P md ops Q Z S st f (listed.setIfInBounds i true) a' w' → K a' w') → if Region.wanted o (yielded ops a.tmps) = true then Oper.wp P o a w K Q else K (a.put o.dst undef) w) : anyT P md ops Q Z S st (f + 1) listed a w :=
  ⟨fun h0 => by rw [hr] at h0; (cases h0), fun j hj => by
    rw [hr] at hj
    obtain rfl := List.mem_singleton.1 hj
    exact wpOp_step ho fun K hK => h K fun a' w' hZ hS hW => hK a' w' ⟨⟨hZ, fun _ => hS⟩, hW⟩⟩
/-- A store: S is let go. -/
theorem oneS {i : Nat} {o : Oper} {f : Nat} {listed : Array Bool} {a : Act} {w : World} (hr : Region.ready md ops listed = [i]) (hist : noneB st (listed.setIfInBounds i true) = false) (ho : ops[i]? = some o)
    (h : ∀ K : Act → World → Prop, Shut (∀ a' w', Z w' → anyT P md ops Q Z S st f (listed.setIfInBounds i true) a' w' → K a' w') → if Region.wanted o (yielded ops a.tmps) = true then Oper.wp P o a w K Q else K (a.put o.dst undef) w) : anyT P md ops Q Z S st (f + 1) listed a w :=
  ⟨fun h0 => by rw [hr] at h0; (cases h0), fun j hj => by
    rw [hr] at hj
    obtain rfl := List.mem_singleton.1 hj
    refine wpOp_step ho fun K hK => h K fun a' w' hZ hW => hK a' w' ⟨⟨hZ, fun hx => ?_⟩, hW⟩
    have : noneB st (listed.setIfInBounds j true) = true := List.all_eq_true.2 fun s hs => by simpa using hx s hs
    rw [this] at hist; cases hist⟩
theorem done {f : Nat} {listed : Array Bool} {a : Act} {w : World} (hr : Region.ready md ops listed = []) (h : Q .normal a w) : anyT P md ops Q Z S st f listed a w := by
  cases f with
  | zero => exact ⟨hr, h⟩
  | succ f => exact ⟨fun _ => h, fun i hi => by rw [hr] at hi; cases hi⟩
theorem wp_region {id : Nat} {a : Act} {w : World} (hm : P.follows .mixedOrders = true) (h : anyT P .any ops Q Z S st ops.size (Array.replicate ops.size false) a w.drew) : (Code.region id ops true).wp P Q a w :=
  wp_region_any hm (any_of _ _ _ _ h)
end Go.Proofs.YtkafmpdjpjgkgaaDoor.HT
