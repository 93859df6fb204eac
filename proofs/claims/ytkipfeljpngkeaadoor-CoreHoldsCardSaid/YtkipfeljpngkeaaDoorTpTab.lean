/- DERIVED. What the program's two tables hold, cell by cell. By an AI agent. -/
import Derived.Test.YtkipfeljpngkeaaDoorRows
import Derived.Test.YtkipfeljpngkeaaDoorTabs
import Derived.ProofKit
import Derived.Below
namespace Go.Proofs.YtkipfeljpngkeaaDoor.Tp
open Go Go.ChangeShapes Go.WideShapes Go.ChangeAt Go.RowKit Tabs
set_option linter.unusedVariables false
structure Fld where
  of : Nat
  low : Nat
  wid : Nat
  least : Int
  most : Int
def flds : List Fld := [⟨0, 0, 3, 0, 7⟩, ⟨0, 8, 3, 0, 7⟩, ⟨0, 8, 4, 0, 13⟩, ⟨1, 3, 3, 0, 7⟩, ⟨2, 3, 3, 0, 7⟩, ⟨2, 6, 3, 0, 7⟩, ⟨3, 0, 8, 0, 255⟩, ⟨3, 6, 5, 0, 31⟩, ⟨3, 6, 5, 1, 32⟩, ⟨3, 6, 3, 0, 7⟩, ⟨3, 6, 4, 0, 15⟩, ⟨3, 0, 11, -1024, 1023⟩, ⟨3, 0, 8, -128, 127⟩]
structure Shp where
  head : Nat
  low : Nat
  has : List Nat
def shps : List Shp := [⟨4, 11, [1, 6]⟩, ⟨5, 11, [1, 6]⟩, ⟨6, 11, [1, 6]⟩, ⟨7, 11, [1, 6]⟩, ⟨0, 11, [7, 4, 0]⟩, ⟨1, 11, [8, 4, 0]⟩, ⟨2, 11, [8, 4, 0]⟩, ⟨12, 9, [5, 3, 0]⟩, ⟨13, 9, [5, 3, 0]⟩, ⟨14, 9, [9, 3, 0]⟩, ⟨15, 9, [9, 3, 0]⟩, ⟨16, 10, [10, 4, 0]⟩, ⟨13, 11, [7, 3, 0]⟩, ⟨12, 11, [7, 3, 0]⟩, ⟨44, 9, [5, 3, 0]⟩, ⟨40, 9, [5, 3, 0]⟩, ⟨9, 11, [1, 6]⟩, ⟨28, 11, [11]⟩, ⟨13, 12, [2, 12]⟩, ⟨48896, 0, []⟩, ⟨190, 8, [6]⟩]
def fldN (k : Nat) : Fld := flds[k]?.getD ⟨0, 0, 0, 0, 0⟩
def shpN (k : Nat) : Shp := shps[k]?.getD ⟨0, 0, []⟩
def fcells (k : Nat) : List Cl := [.v (.int .i64 (fldN k).of), .v (.int .u64 (fldN k).low), .v (.int .u64 (fldN k).wid), .v (.int .i64 (fldN k).least), .v (.int .i64 (fldN k).most)]
def scells (k : Nat) : List Cl := [.v (.int .u16 (shpN k).head), .v (.int .u64 (shpN k).low), .row ((shpN k).has.map fun x : Nat => .int .i64 (x : Int))]
theorem flat_get {α : Type} (f : Nat → List α) (c : Nat) (hf : ∀ i, (f i).length = c) : ∀ (n i j : Nat), i < n → j < c → ((List.range n).flatMap f)[c * i + j]? = (f i)[j]?
  | 0, i, j, h, _ => by omega
  | n + 1, i, j, h, hj => by
    have hl : ∀ m, ((List.range m).flatMap f).length = c * m := fun m => by
      induction m with
      | zero => simp
      | succ m ih => rw [List.range_succ, List.flatMap_append, List.length_append, ih]; simp [hf, Nat.mul_succ]
    rw [List.range_succ, List.flatMap_append]
    by_cases hi : i < n
    · have : c * i + j < c * n := Nat.lt_of_lt_of_le (by rw [Nat.mul_succ]; omega : c * i + j < c * (i + 1)) (Nat.mul_le_mul_left c hi)
      rw [List.getElem?_append_left (by rw [hl]; exact this)]
      exact flat_get f c hf n i j hi hj
    · have : i = n := by omega
      subst this
      rw [List.getElem?_append_right (by rw [hl]; omega), hl]
      simp
theorem lay_f : lay Tryd.prog 6 98 Rows.laid_bauta_thumb_fields = some ((List.range 13).flatMap fcells) := by kernel_rfl
theorem lay_s : lay Tryd.prog 6 95 Rows.laid_bauta_thumb_shapes = some ((List.range 21).flatMap scells) := by kernel_rfl
theorem gf : Tryd.prog.globalNamed "bauta/thumb.fields" = some 1 := by kernel_rfl
theorem gs : Tryd.prog.globalNamed "bauta/thumb.shapes" = some 0 := by kernel_rfl
theorem tf : (Tryd.prog.globals[1]?).map (fun x => x.type) = some 98 := by kernel_rfl
theorem ts : (Tryd.prog.globals[0]?).map (fun x => x.type) = some 95 := by kernel_rfl
/-- The tables lie in the world as the program's text has them. -/
structure Tb (w : World) : Prop where
  f : ∀ k j c, k < 13 → (fcells k)[j]? = some c → ∃ x, w.cell? ⟨1, 5 * k + j, none⟩ = some x ∧ c.fits w x
  s : ∀ k j c, k < 21 → (scells k)[j]? = some c → ∃ x, w.cell? ⟨0, 3 * k + j, none⟩ = some x ∧ c.fits w x
theorem fits_below {w w' : World} (hb : Below w.heap.size w w') {c : Cl} {x : Value} (h : c.fits w x) : c.fits w' x := by
  cases c with
  | v y => exact h
  | row xs =>
    obtain ⟨a, cap, h1, h2, h3⟩ := h
    exact ⟨a, cap, h1, h2, fun j y hj => by rw [hb.cell (World.block_lt_of_cell? w _ (h3 j y hj))]; exact h3 j y hj⟩
theorem Tb.below {w w' : World} (h : Tb w) (hb : Below w.heap.size w w') : Tb w' := by
  refine ⟨fun k j c hk hc => ?_, fun k j c hk hc => ?_⟩
  · obtain ⟨x, hx, hf⟩ := h.f k j c hk hc
    exact ⟨x, by rw [hb.cell (World.block_lt_of_cell? w _ hx)]; exact hx, fits_below hb hf⟩
  · obtain ⟨x, hx, hf⟩ := h.s k j c hk hc
    exact ⟨x, by rw [hb.cell (World.block_lt_of_cell? w _ hx)]; exact hx, fits_below hb hf⟩
theorem of_laid {W : World} (h : laidMetH Tryd.prog [("bauta/thumb.fields", Rows.laid_bauta_thumb_fields), ("bauta/thumb.shapes", Rows.laid_bauta_thumb_shapes)] W) : Tb W := by
  rw [MakeChecks.laidMetH_plain _ _ _ (by kernel_rfl)] at h
  obtain ⟨ps, ⟨g0, t0, cs0, f0, p0, q0, hg0, ht0, hv0, hd0, ⟨g1, t1, cs1, f1, p1, q1, hg1, ht1, hv1, hd1, _, _⟩, _⟩, _, _⟩ := h
  obtain rfl := Option.some.inj (gf.symm.trans hg0)
  obtain rfl := Option.some.inj (tf.symm.trans ht0)
  obtain rfl := Option.some.inj (gs.symm.trans hg1)
  obtain rfl := Option.some.inj (ts.symm.trans ht1)
  refine ⟨fun k j c hk hc => ?_, fun k j c hk hc => ?_⟩
  · have hj : j < 5 := (List.getElem?_eq_some_iff.1 hc).1
    exact cells_of hg0 hv0 hd0 lay_f (5 * k + j) c (by rw [flat_get fcells 5 (fun _ => rfl) 13 k j hk hj]; exact hc)
  · have hj : j < 3 := (List.getElem?_eq_some_iff.1 hc).1
    exact cells_of hg1 hv1 hd1 lay_s (3 * k + j) c (by rw [flat_get scells 3 (fun _ => rfl) 21 k j hk hj]; exact hc)
theorem Tb.f0 {w : World} (h : Tb w) (k : Nat) (hk : k < 13) : w.cell? ⟨1, k * 5, none⟩ = some (.int .i64 (fldN k).of) := by obtain ⟨x, hx, hf⟩ := h.f k 0 _ hk rfl; rw [Nat.mul_comm k]; exact hx.trans (congrArg some hf)
theorem Tb.f1 {w : World} (h : Tb w) (k : Nat) (hk : k < 13) : w.cell? ⟨1, k * 5 + 1, none⟩ = some (.int .u64 (fldN k).low) := by obtain ⟨x, hx, hf⟩ := h.f k 1 _ hk rfl; rw [Nat.mul_comm k]; exact hx.trans (congrArg some hf)
theorem Tb.f2 {w : World} (h : Tb w) (k : Nat) (hk : k < 13) : w.cell? ⟨1, k * 5 + 2, none⟩ = some (.int .u64 (fldN k).wid) := by obtain ⟨x, hx, hf⟩ := h.f k 2 _ hk rfl; rw [Nat.mul_comm k]; exact hx.trans (congrArg some hf)
theorem Tb.f3 {w : World} (h : Tb w) (k : Nat) (hk : k < 13) : w.cell? ⟨1, k * 5 + 3, none⟩ = some (.int .i64 (fldN k).least) := by obtain ⟨x, hx, hf⟩ := h.f k 3 _ hk rfl; rw [Nat.mul_comm k]; exact hx.trans (congrArg some hf)
theorem Tb.f4 {w : World} (h : Tb w) (k : Nat) (hk : k < 13) : w.cell? ⟨1, k * 5 + 4, none⟩ = some (.int .i64 (fldN k).most) := by obtain ⟨x, hx, hf⟩ := h.f k 4 _ hk rfl; rw [Nat.mul_comm k]; exact hx.trans (congrArg some hf)
theorem Tb.s0 {w : World} (h : Tb w) (k : Nat) (hk : k < 21) : w.cell? ⟨0, k * 3, none⟩ = some (.int .u16 (shpN k).head) := by obtain ⟨x, hx, hf⟩ := h.s k 0 _ hk rfl; rw [Nat.mul_comm k]; exact hx.trans (congrArg some hf)
theorem Tb.s1 {w : World} (h : Tb w) (k : Nat) (hk : k < 21) : w.cell? ⟨0, k * 3 + 1, none⟩ = some (.int .u64 (shpN k).low) := by obtain ⟨x, hx, hf⟩ := h.s k 1 _ hk rfl; rw [Nat.mul_comm k]; exact hx.trans (congrArg some hf)
theorem Tb.s2 {w : World} (h : Tb w) (k : Nat) (hk : k < 21) : ∃ a cap, w.cell? ⟨0, k * 3 + 2, none⟩ = some (.slice (some a) (shpN k).has.length cap) ∧ ∀ j x : Nat, (shpN k).has[j]? = some x → w.cell? (a.add j) = some (.int .i64 (x : Int)) := by
  obtain ⟨x, hx, a, cap, h1, h2, h3⟩ := h.s k 2 _ hk rfl
  refine ⟨a, cap, by rw [Nat.mul_comm k, hx, h1]; simp, fun j x hj => h3 j _ (by rw [List.getElem?_map, hj]; rfl)⟩
theorem Tb.gs {w : World} (h : Tb w) : 0 < w.heap.size := World.block_lt_of_cell? w _ (h.s0 0 (by decide))
theorem Tb.gf {w : World} (h : Tb w) : 1 < w.heap.size := World.block_lt_of_cell? w _ (h.f0 0 (by decide))
end Go.Proofs.YtkipfeljpngkeaaDoor.Tp
