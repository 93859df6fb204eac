/- DERIVED. CoSpec in one text. By an AI agent. -/
import Derived.Test.YtkafmpdjpjgkgaaDoorZ02
import Derived.Test.YtkafmpdjpjgkgaaDoorZ01
import Derived.Test.YtkafmpdjpjgkgaaDoorZ05
/- DERIVED. What instructions do, plainly: states, flags, conditions, sums, shifts. By an AI agent. -/
namespace Go.Proofs.YtkafmpdjpjgkgaaDoor.Co
open WMath Word Mm Tp Args Go.ChangeShapes Go.WideShapes Go.ChangeAt Go.RowKit
set_option linter.unusedVariables false
/-- A machine's registers, where it is, its flags. -/
structure S where
  r : Nat → BitVec 32
  pc : BitVec 32
  n : Bool
  z : Bool
  c : Bool
  v : Bool
def S.up (s : S) (d : Nat) (x : BitVec 32) : S := { s with r := fun k => if k = d then x else s.r k }
def S.fl (s : S) (x : BitVec 32) : S := { s with n := x.msb, z := x == 0#32 }
def S.cv (s : S) (c v : Bool) : S := { s with c := c, v := v }
def S.to (s : S) (p : BitVec 32) : S := { s with pc := p }
abbrev sC (s : S) : Array Value := #[u (s.r 0), u (s.r 1), u (s.r 2), u (s.r 3), u (s.r 4), u (s.r 5), u (s.r 6), u (s.r 7), u s.pc, .bool s.n, .bool s.z, .bool s.c, .bool s.v]
abbrev sv (s : S) : Value := .agg (sC s)
def zS : S := ⟨fun _ => 0, 0, false, false, false, false⟩
def holdsB (k : Int) (s : S) : Bool :=
  if k = 0 then s.z else if k = 1 then !s.z else if k = 2 then s.c else if k = 3 then !s.c else if k = 4 then s.n else if k = 5 then !s.n else if k = 6 then s.v else if k = 7 then !s.v
  else if k = 8 then s.c && !s.z else if k = 9 then !s.c || s.z else if k = 10 then s.n == s.v else if k = 11 then s.n != s.v else if k = 12 then !s.z && s.n == s.v else if k = 13 then s.z || s.n != s.v else false
/-- A word and two flags. -/
structure R3 where
  w : BitVec 32
  c : Bool
  v : Bool
def sum3 (a b : BitVec 32) (c : Bool) : R3 := ⟨sum a b c, carry a b c, over a b c⟩
def sh3 (k : Int) (a : BitVec 32) (n : Nat) (c v : Bool) : R3 := ⟨shV k a n, shC k a n c, v⟩
abbrev rV (x : R3) : Value := .tuple #[u x.w, .agg #[.bool x.c, .bool x.v]]
def alu3 (k : Nat) (d m : BitVec 32) (c v : Bool) : R3 :=
  if k = 0 ∨ k = 8 then ⟨d &&& m, c, v⟩ else if k = 1 then ⟨d ^^^ m, c, v⟩ else if k = 12 then ⟨d ||| m, c, v⟩ else if k = 14 then ⟨d &&& ~~~m, c, v⟩ else if k = 15 then ⟨~~~m, c, v⟩ else if k = 13 then ⟨d * m, c, v⟩
  else if k = 2 then sh3 0 d (m.toNat % 256) c v else if k = 3 then sh3 1 d (m.toNat % 256) c v else if k = 4 then sh3 2 d (m.toNat % 256) c v else if k = 7 then sh3 3 d (m.toNat % 256) c v
  else if k = 5 then sum3 d m c else if k = 6 then sum3 d (~~~m) c else if k = 9 then sum3 0 (~~~m) true else if k = 11 then sum3 d m false else sum3 d (~~~m) true
/-- Cells of a block that are read, and written. -/
theorem sC_get (s : S) (k : Nat) (hk : k < 8) : (sC s)[k]? = some (u (s.r k)) := by
  have hr : k = 0 ∨ k = 1 ∨ k = 2 ∨ k = 3 ∨ k = 4 ∨ k = 5 ∨ k = 6 ∨ k = 7 := by omega
  rcases hr with rfl | rfl | rfl | rfl | rfl | rfl | rfl | rfl <;> rfl
theorem sC_set (s : S) (k : Nat) (hk : k < 8) (x : BitVec 32) : (sC s).setIfInBounds k (u x) = sC (s.up k x) := by
  have hr : k = 0 ∨ k = 1 ∨ k = 2 ∨ k = 3 ∨ k = 4 ∨ k = 5 ∨ k = 6 ∨ k = 7 := by omega
  rcases hr with rfl | rfl | rfl | rfl | rfl | rfl | rfl | rfl <;> rfl
theorem Blk.cells13 {w : World} {g : Nat} {t : TypeId} {s : S} (h : Blk w g t (sC s)) :
    w.cell? ⟨g, 0, none⟩ = some (u (s.r 0)) ∧ w.cell? ⟨g, 1, none⟩ = some (u (s.r 1)) ∧ w.cell? ⟨g, 2, none⟩ = some (u (s.r 2)) ∧ w.cell? ⟨g, 3, none⟩ = some (u (s.r 3)) ∧ w.cell? ⟨g, 4, none⟩ = some (u (s.r 4)) ∧ w.cell? ⟨g, 5, none⟩ = some (u (s.r 5)) ∧ w.cell? ⟨g, 6, none⟩ = some (u (s.r 6)) ∧ w.cell? ⟨g, 7, none⟩ = some (u (s.r 7)) ∧
    w.cell? ⟨g, 8, none⟩ = some (u s.pc) ∧ w.cell? ⟨g, 9, none⟩ = some (.bool s.n) ∧ w.cell? ⟨g, 10, none⟩ = some (.bool s.z) ∧ w.cell? ⟨g, 11, none⟩ = some (.bool s.c) ∧ w.cell? ⟨g, 12, none⟩ = some (.bool s.v) :=
  ⟨h.cell 0, h.cell 1, h.cell 2, h.cell 3, h.cell 4, h.cell 5, h.cell 6, h.cell 7, h.cell 8, h.cell 9, h.cell 10, h.cell 11, h.cell 12⟩
theorem Blk.frozen13 {w : World} {g : Nat} {t : TypeId} {cs : Array Value} (h : Blk w g t cs) :
    w.frozen? ⟨g, 0, none⟩ = false ∧ w.frozen? ⟨g, 1, none⟩ = false ∧ w.frozen? ⟨g, 2, none⟩ = false ∧ w.frozen? ⟨g, 3, none⟩ = false ∧ w.frozen? ⟨g, 4, none⟩ = false ∧ w.frozen? ⟨g, 5, none⟩ = false ∧ w.frozen? ⟨g, 6, none⟩ = false ∧ w.frozen? ⟨g, 7, none⟩ = false ∧
    w.frozen? ⟨g, 8, none⟩ = false ∧ w.frozen? ⟨g, 9, none⟩ = false ∧ w.frozen? ⟨g, 10, none⟩ = false ∧ w.frozen? ⟨g, 11, none⟩ = false ∧ w.frozen? ⟨g, 12, none⟩ = false :=
  ⟨h.frozen 0, h.frozen 1, h.frozen 2, h.frozen 3, h.frozen 4, h.frozen 5, h.frozen 6, h.frozen 7, h.frozen 8, h.frozen 9, h.frozen 10, h.frozen 11, h.frozen 12⟩
/-- A whole state is stored. -/
abbrev put13 (w : World) (g : Nat) (s : S) : World :=
  ((((((((((((w.setCell ⟨g, 0, none⟩ (u (s.r 0))).setCell ⟨g, 1, none⟩ (u (s.r 1))).setCell ⟨g, 2, none⟩ (u (s.r 2))).setCell ⟨g, 3, none⟩ (u (s.r 3))).setCell ⟨g, 4, none⟩ (u (s.r 4))).setCell ⟨g, 5, none⟩ (u (s.r 5))).setCell ⟨g, 6, none⟩ (u (s.r 6))).setCell ⟨g, 7, none⟩ (u (s.r 7))).setCell ⟨g, 8, none⟩ (u s.pc)).setCell ⟨g, 9, none⟩ (.bool s.n)).setCell ⟨g, 10, none⟩ (.bool s.z)).setCell ⟨g, 11, none⟩ (.bool s.c)).setCell ⟨g, 12, none⟩ (.bool s.v)
theorem upd_set (w : World) (g i : Nat) (v : Value) {w0 : World} (h : Upd (· = g) w0 w) : Upd (· = g) w0 (w.setCell ⟨g, i, none⟩ v) := h.setCell (p := ⟨g, i, none⟩) (fun _ => rfl) v
theorem blk_one {w : World} {g : Nat} {t : TypeId} {cs cs' : Array Value} (h : Blk w g t cs) (i : Nat) (v : Value) (hc : cs.setIfInBounds i v = cs') : Blk (w.setCell ⟨g, i, none⟩ v) g t cs' := hc ▸ h.set i v
theorem blk13 {w : World} {g : Nat} {t : TypeId} {s0 : S} (h : Blk w g t (sC s0)) (s : S) : Blk (put13 w g s) g t (sC s) ∧ Upd (· = g) w (put13 w g s) := by
  have h0 := blk_one (cs' := #[u (s.r 0), u (s0.r 1), u (s0.r 2), u (s0.r 3), u (s0.r 4), u (s0.r 5), u (s0.r 6), u (s0.r 7), u s0.pc, .bool s0.n, .bool s0.z, .bool s0.c, .bool s0.v]) h 0 (u (s.r 0)) rfl
  have h1 := blk_one (cs' := #[u (s.r 0), u (s.r 1), u (s0.r 2), u (s0.r 3), u (s0.r 4), u (s0.r 5), u (s0.r 6), u (s0.r 7), u s0.pc, .bool s0.n, .bool s0.z, .bool s0.c, .bool s0.v]) h0 1 (u (s.r 1)) rfl
  have h2 := blk_one (cs' := #[u (s.r 0), u (s.r 1), u (s.r 2), u (s0.r 3), u (s0.r 4), u (s0.r 5), u (s0.r 6), u (s0.r 7), u s0.pc, .bool s0.n, .bool s0.z, .bool s0.c, .bool s0.v]) h1 2 (u (s.r 2)) rfl
  have h3 := blk_one (cs' := #[u (s.r 0), u (s.r 1), u (s.r 2), u (s.r 3), u (s0.r 4), u (s0.r 5), u (s0.r 6), u (s0.r 7), u s0.pc, .bool s0.n, .bool s0.z, .bool s0.c, .bool s0.v]) h2 3 (u (s.r 3)) rfl
  have h4 := blk_one (cs' := #[u (s.r 0), u (s.r 1), u (s.r 2), u (s.r 3), u (s.r 4), u (s0.r 5), u (s0.r 6), u (s0.r 7), u s0.pc, .bool s0.n, .bool s0.z, .bool s0.c, .bool s0.v]) h3 4 (u (s.r 4)) rfl
  have h5 := blk_one (cs' := #[u (s.r 0), u (s.r 1), u (s.r 2), u (s.r 3), u (s.r 4), u (s.r 5), u (s0.r 6), u (s0.r 7), u s0.pc, .bool s0.n, .bool s0.z, .bool s0.c, .bool s0.v]) h4 5 (u (s.r 5)) rfl
  have h6 := blk_one (cs' := #[u (s.r 0), u (s.r 1), u (s.r 2), u (s.r 3), u (s.r 4), u (s.r 5), u (s.r 6), u (s0.r 7), u s0.pc, .bool s0.n, .bool s0.z, .bool s0.c, .bool s0.v]) h5 6 (u (s.r 6)) rfl
  have h7 := blk_one (cs' := #[u (s.r 0), u (s.r 1), u (s.r 2), u (s.r 3), u (s.r 4), u (s.r 5), u (s.r 6), u (s.r 7), u s0.pc, .bool s0.n, .bool s0.z, .bool s0.c, .bool s0.v]) h6 7 (u (s.r 7)) rfl
  have h8 := blk_one (cs' := #[u (s.r 0), u (s.r 1), u (s.r 2), u (s.r 3), u (s.r 4), u (s.r 5), u (s.r 6), u (s.r 7), u s.pc, .bool s0.n, .bool s0.z, .bool s0.c, .bool s0.v]) h7 8 (u s.pc) rfl
  have h9 := blk_one (cs' := #[u (s.r 0), u (s.r 1), u (s.r 2), u (s.r 3), u (s.r 4), u (s.r 5), u (s.r 6), u (s.r 7), u s.pc, .bool s.n, .bool s0.z, .bool s0.c, .bool s0.v]) h8 9 (.bool s.n) rfl
  have h10 := blk_one (cs' := #[u (s.r 0), u (s.r 1), u (s.r 2), u (s.r 3), u (s.r 4), u (s.r 5), u (s.r 6), u (s.r 7), u s.pc, .bool s.n, .bool s.z, .bool s0.c, .bool s0.v]) h9 10 (.bool s.z) rfl
  have h11 := blk_one (cs' := #[u (s.r 0), u (s.r 1), u (s.r 2), u (s.r 3), u (s.r 4), u (s.r 5), u (s.r 6), u (s.r 7), u s.pc, .bool s.n, .bool s.z, .bool s.c, .bool s0.v]) h10 11 (.bool s.c) rfl
  have h12 := blk_one (cs' := #[u (s.r 0), u (s.r 1), u (s.r 2), u (s.r 3), u (s.r 4), u (s.r 5), u (s.r 6), u (s.r 7), u s.pc, .bool s.n, .bool s.z, .bool s.c, .bool s.v]) h11 12 (.bool s.v) rfl
  exact ⟨h12, upd_set _ _ _ _ (upd_set _ _ _ _ (upd_set _ _ _ _ (upd_set _ _ _ _ (upd_set _ _ _ _ (upd_set _ _ _ _ (upd_set _ _ _ _ (upd_set _ _ _ _ (upd_set _ _ _ _ (upd_set _ _ _ _ (upd_set _ _ _ _ (upd_set _ _ _ _ (upd_set _ _ _ _ (Upd.refl _ w)))))))))))))⟩
theorem blk2 {w : World} {g : Nat} {t : TypeId} {a b : Value} (h : Blk w g t #[a, b]) (x y : Value) : Blk ((w.setCell ⟨g, 0, none⟩ x).setCell ⟨g, 1, none⟩ y) g t #[x, y] ∧ Upd (· = g) w ((w.setCell ⟨g, 0, none⟩ x).setCell ⟨g, 1, none⟩ y) :=
  ⟨blk_one (cs' := #[x, y]) (blk_one (cs' := #[x, b]) h 0 x rfl) 1 y rfl, upd_set _ _ _ _ (upd_set _ _ _ _ (Upd.refl _ w))⟩
theorem upd_low {w0 w w' : World} {g : Nat} (h : Below w0.heap.size w0 w) (hu : Upd (· = g) w w') (hg : w0.heap.size ≤ g) : Below w0.heap.size w0 w' := h.trans (hu.below h.size fun k e => by rw [e]; exact hg)
end Go.Proofs.YtkafmpdjpjgkgaaDoor.Co
