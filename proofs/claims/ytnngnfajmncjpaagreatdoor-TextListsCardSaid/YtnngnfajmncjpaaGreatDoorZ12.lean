/- DERIVED. Upd in one text. By an AI agent. -/
import Derived.Test.YtnngnfajmncjpaaGreatDoorZ11
import Derived.RangeFuncBox
/- DERIVED. Of no program: a world in which only some blocks that lay have turned. By an AI agent. -/
namespace Go.Proofs.YtnngnfajmncjpaaGreatDoor.Args
open Go Go.ChangeShapes Go.WideShapes Go.ChangeAt Go.RowKit
set_option linter.unusedVariables false
/-- New blocks; of those that lay, the ones of X alone may have turned. -/
structure Upd (X : Nat → Prop) (w w' : World) : Prop where
  os : w'.os = w.os
  tape : w'.tape = w.tape
  output : w'.output = w.output
  size : w.heap.size ≤ w'.heap.size
  block : ∀ k, k < w.heap.size → ¬ X k → w'.heap[k]? = w.heap[k]?
section
variable {X Y : Nat → Prop} {w w1 w' : World}
theorem Upd.refl (X : Nat → Prop) (w : World) : Upd X w w := ⟨rfl, rfl, rfl, Nat.le_refl _, fun _ _ _ => rfl⟩
theorem Upd.trans (h : Upd X w w1) (k : Upd X w1 w') : Upd X w w' :=
  ⟨k.os.trans h.os, k.tape.trans h.tape, k.output.trans h.output, Nat.le_trans h.size k.size, fun i hi hx => (k.block i (Nat.lt_of_lt_of_le hi h.size) hx).trans (h.block i hi hx)⟩
theorem Upd.mono (h : Upd X w w') (hXY : ∀ k, X k → Y k) : Upd Y w w' := ⟨h.os, h.tape, h.output, h.size, fun i hi hx => h.block i hi fun hq => hx (hXY i hq)⟩
/-- What was made since may have turned too. -/
theorem Upd.fresh (h : Upd X w w') (hX : ∀ k, X k → k < w.heap.size → Y k) : Upd Y w w' := ⟨h.os, h.tape, h.output, h.size, fun i hi hx => h.block i hi fun hq => hx (hX i hq hi)⟩
theorem Upd.drew (h : Upd X w w') : Upd X w w'.drew := ⟨h.os, h.tape, h.output, h.size, h.block⟩
theorem Upd.drewN (h : Upd X w w') (n : Nat) : Upd X w (w'.drewN n) := ⟨h.os, h.tape, h.output, h.size, h.block⟩
theorem Upd.alloc (h : Upd X w w') (o : Obj) : Upd X w (w'.alloc o) :=
  ⟨h.os, h.tape, h.output, by simp; exact Nat.le_succ_of_le h.size, fun i hi hx => (Below.heap_alloc w' o i (Nat.lt_of_lt_of_le hi h.size)).trans (h.block i hi hx)⟩
theorem Upd.setCell (h : Upd X w w') {p : Addr} (hp : p.block < w.heap.size → X p.block) (u : Value) : Upd X w (w'.setCell p u) :=
  ⟨h.os, h.tape, h.output, by have := (Below.setCell (p := p) (Below.refl 0 w') (Nat.zero_le _) u).size; exact Nat.le_trans h.size this, fun i hi hx => (Below.heap_setCell w' p u i (fun e => hx (by subst e; exact hp hi))).trans (h.block i hi hx)⟩
theorem Upd.of_below (h : Below w.heap.size w w') (X : Nat → Prop) : Upd X w w' := ⟨h.os, h.tape, h.output, h.size, fun i hi _ => h.block i hi⟩
theorem Upd.below (h : Upd X w w') {B : Nat} (hB : B ≤ w.heap.size) (hX : ∀ k, X k → B ≤ k) : Below B w w' :=
  ⟨h.os, h.tape, h.output, h.size, fun i hi => h.block i (Nat.lt_of_lt_of_le hi hB) fun hx => by have := hX i hx; omega⟩
theorem Upd.grown (h : Upd X w w1) {row : Option Nat} (hg : w1.grownBy w' row) (hr : ∀ k, row = some k → k < w.heap.size → X k) : Upd X w w' :=
  ⟨hg.os.trans h.os, hg.tape.trans h.tape, hg.output.trans h.output, Nat.le_trans h.size hg.size, fun i hi hx => (hg.block i (Nat.lt_of_lt_of_le hi h.size) fun e => hx (hr i e.symm hi)).trans (h.block i hi hx)⟩
theorem Upd.cell (h : Upd X w w') {p : Addr} (hp : p.block < w.heap.size) (hx : ¬ X p.block) : w'.cell? p = w.cell? p := World.cell?_of_block (h.block _ hp hx)
theorem Upd.lies (h : Upd X w w') {A : Option Addr} {xs : List Value} (hL : Lies w A xs) (hA : ∀ b o, A = some ⟨b, o, none⟩ → 0 < xs.length → ¬ X b) : Lies w' A xs := fun j u hj => by
  obtain ⟨b, o, rfl, hb, hc⟩ := hL.at_ hj
  refine ⟨_, rfl, ?_⟩
  rw [Args.add_plain]
  exact (h.cell (p := ⟨b, o + j, none⟩) hb (hA b o rfl (by have := (List.getElem?_eq_some_iff.1 hj).1; omega))).trans (hc j u hj)
end
/-- A block of cells, whole. -/
def Blk (w : World) (g : Nat) (t : TypeId) (cs : Array Value) : Prop := w.heap[g]? = some (.cells cs t (0, 0))
section
variable {X : Nat → Prop} {w w' : World} {g : Nat} {t : TypeId} {cs : Array Value}
theorem Blk.lt (h : Blk w g t cs) : g < w.heap.size := (Array.getElem?_eq_some_iff.1 h).1
theorem Blk.cell (h : Blk w g t cs) (i : Nat) : w.cell? ⟨g, i, none⟩ = cs[i]? := cell_of_row w g i cs t (0, 0) h
theorem Blk.frozen (h : Blk w g t cs) (i : Nat) : w.frozen? ⟨g, i, none⟩ = false := by
  unfold Blk at h
  simp [World.frozen?, h]
theorem Blk.new (w : World) (t : TypeId) (cs : Array Value) : Blk (w.alloc (.cells cs t)) w.heap.size t cs := heap_alloc_new w _
theorem Blk.set (h : Blk w g t cs) (i : Nat) (u : Value) : Blk (w.setCell ⟨g, i, none⟩ u) g t (cs.setIfInBounds i u) := by
  unfold Blk at h ⊢
  simp [World.setCell, Array.getElem?_modify, h]
theorem Blk.far (h : Blk w g t cs) {p : Addr} (hp : g ≠ p.block) (u : Value) : Blk (w.setCell p u) g t cs := (Below.heap_setCell w p u g hp).trans h
theorem Blk.drew (h : Blk w g t cs) : Blk w.drew g t cs := h
theorem Blk.alloc (h : Blk w g t cs) (o : Obj) : Blk (w.alloc o) g t cs := (Below.heap_alloc w o g h.lt).trans h
theorem Blk.upd (h : Blk w g t cs) (hu : Upd X w w') (hx : ¬ X g) : Blk w' g t cs := (hu.block g h.lt hx).trans h
theorem Blk.below {B : Nat} (h : Blk w g t cs) (hb : Below B w w') (hg : g < B) : Blk w' g t cs := (hb.block g hg).trans h
end
end Go.Proofs.YtnngnfajmncjpaaGreatDoor.Args
