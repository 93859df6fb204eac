/- DERIVED. CoB0 in one text. By an AI agent. -/
import Derived.Test.YtkipfeljpngkeaaDoorZ26
import Derived.Test.YtkipfeljpngkeaaDoorZ28
/- DERIVED. Both memories over one state. By an AI agent. -/
namespace Go.Proofs.YtkipfeljpngkeaaDoor.Co
open Go.ChangeShapes Go.WideShapes Go.ChangeAt Go.RowKit WMath Word Ref Args Mm MmR
set_option linter.unusedVariables false
set_option linter.unusedSimpArgs false
/-- Both memories, over the same state, apart. -/
structure Bo (W : World) (n1 n2 : Nat) (h h' : Hd) (m : St) (w : World) : Prop where
  p : PP n1 h m w
  r : RP n2 h' m w
  lo : Below W.heap.size W w
  sep : ∀ k, h.B k → k < n2
  l1 : W.heap.size ≤ n1
  l2 : n1 ≤ n2
section
variable {W w w1 w2 : World} {n1 n2 : Nat} {h h' : Hd} {m m' : St}
theorem Bo.px (i : Bo W n1 n2 h h' m w) : ∀ k, h.X k → W.heap.size ≤ k := fun k hk => Nat.le_trans i.l1 (i.p.X_low k hk)
theorem Bo.rx (i : Bo W n1 n2 h h' m w) : ∀ k, h'.X k → W.heap.size ≤ k := fun k hk => Nat.le_trans i.l1 (Nat.le_trans i.l2 (i.r.X_low k hk))
theorem Bo.pr (i : Bo W n1 n2 h h' m w) : ∀ k, h'.B k → ¬ h.X k := fun k hk hx => by have h1 := (i.r.lt hk).1; have h2 := i.sep k (Hd.XB hx); omega
theorem Bo.rp (i : Bo W n1 n2 h h' m w) : ∀ k, h.B k → ¬ h'.X k := fun k hk hx => by have h1 := (i.r.lt (Hd.XB hx)).1; have h2 := i.sep k hk; omega
theorem Bo.ext (i : Bo W n1 n2 h h' m w) (he : Below w.heap.size w w1) : Bo W n1 n2 h h' m w1 := ⟨i.p.below he, i.r.below he, i.lo.trans (he.mono i.lo.size), i.sep, i.l1, i.l2⟩
theorem bel_upd {X : Nat → Prop} {W w w' : World} (h : Below W.heap.size W w) (hu : Upd X w w') (hX : ∀ k, X k → W.heap.size ≤ k) : Below W.heap.size W w' := Below.trans h (hu.below h.size hX)
/-- The program's turn, then the reference's. -/
theorem Bo.both (i : Bo W n1 n2 h h' m w) (p1 : PP n1 h m' w1) (u1 : Upd h.X w w1) (r2 : RP n2 h' m' w2) (u2 : Upd h'.X w1 w2) : Bo W n1 n2 h h' m' w2 :=
  ⟨p1.upd u2 i.rp, r2, bel_upd (bel_upd i.lo u1 i.px) u2 i.rx, i.sep, i.l1, i.l2⟩
/-- A box that was there before both. -/
theorem Bo.box1 (i : Bo W n1 n2 h h' m w) {q : Nat} {t : TypeId} {cs : Array Value} (hb : Blk w1 q t cs) (hq : q < n1) (hu : Upd h.X w1 w2) : Blk w2 q t cs := hb.upd hu fun hx => by have := i.p.X_low q hx; omega
theorem Bo.box2 (i : Bo W n1 n2 h h' m w) {q : Nat} {t : TypeId} {cs : Array Value} (hb : Blk w1 q t cs) (hq : q < n1) (hu : Upd h'.X w1 w2) : Blk w2 q t cs := hb.upd hu fun hx => by have := i.r.X_low q hx; have := i.l2; omega
/-- A box that came behind both. -/
theorem Bo.new1 (i : Bo W n1 n2 h h' m w) {q : Nat} {t : TypeId} {cs : Array Value} (hb : Blk w1 q t cs) (hq : w.heap.size ≤ q) (hu : Upd h.X w1 w2) : Blk w2 q t cs := hb.upd hu fun hx => by have := (i.p.lt (Hd.XB hx)).2; omega
theorem Bo.new2 (i : Bo W n1 n2 h h' m w) {q : Nat} {t : TypeId} {cs : Array Value} (hb : Blk w1 q t cs) (hq : w.heap.size ≤ q) (hu : Upd h'.X w1 w2) : Blk w2 q t cs := hb.upd hu fun hx => by have := (i.r.lt (Hd.XB hx)).2; omega
end
theorem lies_new (w : World) (k : IntKind) (t : TypeId) (zs : List Int) : Lies (w.alloc (.cells (zs.map (Value.int k)).toArray t)) (some ⟨w.heap.size, 0, none⟩) (zs.map (.int k)) := fun j u hj => ⟨_, rfl, by
  rw [Args.add_plain, Nat.zero_add, World.cell?_alloc_at _ _ _ _ rfl]; simpa using hj⟩
end Go.Proofs.YtkipfeljpngkeaaDoor.Co
