/- DERIVED. Tabs, TpTab, ThRef, TpFld in one text. By an AI agent. -/
import Derived.LaidMore
import Derived.OpenShut
import Derived.MakeChecks
import Derived.Test.YtkafmpdjpjgkgaaDoorRows
import Derived.ProofKit
import Derived.Below
import Derived.WalkKit
import Derived.RegionTactic
import Derived.Deep.QuietTactic
import Derived.BigQuiet
import Derived.Outline
import Derived.Lib.Hide
import Derived.OwnWalk
import Derived.WalkSmall
import Derived.Lib.QuietBelow
import Derived.Deep.RegionHeld3
import Derived.Laws.Bits64b
/- DERIVED. Of no program: what a listed variable's datum says of the memory's cells, one by one, by one closed test ('lay'). By an AI agent. -/
namespace Go.Proofs.YtkafmpdjpjgkgaaDoor.Tabs
open Go
/-- What one cell holds: a plain value, or a slice without spare over cells that hold plain values. -/
inductive Cl where
  | v (x : Value)
  | row (xs : List Value)
def Cl.fits (w : World) : Cl → Value → Prop
  | .v x, c => c = x
  | .row xs, c => ∃ a cap, c = .slice (some a) xs.length cap ∧ xs.length ≤ cap ∧ ∀ j x, xs[j]? = some x → w.cell? (a.add j) = some x
def Fits (w : World) : List Cl → List Value → Prop
  | [], [] => True
  | c :: l, x :: cs => c.fits w x ∧ Fits w l cs
  | _, _ => False
theorem Fits.append {w : World} : ∀ {l1 l2 : List Cl} {c1 c2 : List Value}, Fits w l1 c1 → Fits w l2 c2 → Fits w (l1 ++ l2) (c1 ++ c2)
  | [], _, [], _, _, h => h
  | _ :: _, _, _ :: _, _, h1, h2 => ⟨h1.1, Fits.append h1.2 h2⟩
theorem Fits.get {w : World} : ∀ {l : List Cl} {cs : List Value}, Fits w l cs → ∀ (i : Nat) (c : Cl), l[i]? = some c → ∃ x, cs[i]? = some x ∧ c.fits w x
  | [], _, _, i, c, h => by simp at h
  | d :: l, x :: cs, hf, 0, c, h => by simp at h; subst h; exact ⟨x, rfl, hf.1⟩
  | d :: l, x :: cs, hf, i + 1, c, h => by
    simp at h
    obtain ⟨y, hy, hc⟩ := Fits.get hf.2 i c h
    exact ⟨y, by simpa using hy, hc⟩
theorem fits_chunks {w : World} : ∀ (ls : List (List Cl)) (cs : List Value), cs.length = ls.flatten.length →
    (∀ i l, ls[i]? = some l → Fits w l ((cs.drop ((ls.take i).flatten.length)).take l.length)) → Fits w ls.flatten cs
  | [], cs, hl, _ => by
    have : cs = [] := by simpa using hl
    subst this; exact trivial
  | l :: ls, cs, hl, h => by
    have h0 := h 0 l rfl
    simp at h0
    have hr := fits_chunks ls (cs.drop l.length) (by simp at hl ⊢; omega) (fun i m hm => by
      have := h (i + 1) m (by simpa using hm)
      simpa [Nat.add_comm] using this)
    have := Fits.append h0 hr
    rw [List.take_append_drop] at this
    simpa using this
def plain : List Cl → Option Value
  | [.v x] => some x
  | _ => none
def lay (P : Program) : Nat → TypeId → DataW Unit → Option (List Cl)
  | 0, _, _ => none
  | n + 1, t, d =>
    match P.underlying t, d with
    | some .bool, .lit (.bool b) => some [.v (.bool b)]
    | some (.int _), .lit (.int k n) => some [.v (.int k n)]
    | some .string, .lit (.string s) => some [.v (.string ⟨s.toArray⟩)]
    | some (.array _ e), .agg ds =>
      (ds.mapM (lay P n e)).bind fun ls =>
        if P.cellsOf t == ls.flatten.length && (List.range ls.length).all (fun i => (ls.take i).flatten.length == i * P.cellsOf e && (ls.getD i []).length == P.cellsOf e) then some ls.flatten else none
    | some (.struct fs), .agg ds =>
      ((fs.toList.zip ds).mapM fun x => lay P n x.1.type x.2).bind fun ls =>
        if P.cellsOf t == ls.flatten.length && fs.size == ls.length && ds.length == ls.length && (List.range ls.length).all (fun i => (fs[i]?).any fun f => (ls.take i).flatten.length == f.offset && (ls.getD i []).length == P.cellsOf f.type) then some ls.flatten else none
    | some (.slice e), .slice ds [] => if P.cellsOf e == 1 then (ds.mapM (fun d => (lay P n e d).bind plain)).map fun xs => [.row xs] else none
    | _, _ => none
theorem lay_fits {P : Program} {w : World} {base : Nat} {sp : Nat → Bool} {held : Bool} :
    ∀ (n : Nat) (t : TypeId) (d : DataW Unit) (l : List Cl) (fuel : Nat) (cs : List Value) (p : List MemPlace), lay P n t d = some l →
      DataW.trod (H := Unit) (fun _ => ()) P w base sp held fuel t cs = some (d, p) → Fits w l cs := by
  intro n
  induction n with
  | zero => intro t d l fuel cs p h; simp [lay] at h
  | succ n ih =>
    intro t d l fuel cs p h hd
    unfold lay at h
    split at h
    · rename_i b ht
      obtain ⟨b', rfl, hx⟩ := DataW.trod_bool ht hd
      simp at hx h
      obtain ⟨rfl, _⟩ := hx
      subst h
      exact ⟨rfl, trivial⟩
    · rename_i k0 k m ht
      obtain ⟨z, rfl, hx, _⟩ := DataW.trod_int ht hd
      simp at hx h
      obtain ⟨⟨rfl, rfl⟩, _⟩ := hx
      subst h
      exact ⟨rfl, trivial⟩
    · rename_i s ht
      obtain ⟨z, rfl, hx, _⟩ := DataW.trod_string ht hd
      simp at hx h
      obtain ⟨rfl, _⟩ := hx
      subst h
      exact ⟨rfl, trivial⟩
    · rename_i k0 e ds ht
      obtain ⟨xs, m, rfl, hx, hcl, hxl, hel⟩ := DataW.trod_array ht hd
      rw [Option.bind_eq_some_iff] at h
      obtain ⟨ls, hls, h⟩ := h
      split at h
      · rename_i hchk
        simp only [Bool.and_eq_true, beq_iff_eq, List.all_eq_true, List.mem_range] at hchk
        obtain ⟨hsz, hall⟩ := hchk
        simp at h hx
        obtain ⟨rfl, _⟩ := hx
        subst h
        have hlen : ls.length = xs.length := by rw [mapM_some_length hls]; simp
        refine fits_chunks ls cs (by rw [hcl, hsz]) fun i l hi => ?_
        have hil : i < ls.length := (List.getElem?_eq_some_iff.1 hi).1
        obtain ⟨h1, h2⟩ := hall i hil
        have e1 : (ls.getD i []) = l := by rw [List.getD_eq_getElem?_getD, hi]; rfl
        rw [e1] at h2
        have hE := hel i (by omega)
        have hxi : xs[i]? = some (xs[i]'(by omega)) := List.getElem?_eq_getElem (by omega)
        have hg := mapM_some_get hls i (xs[i]'(by omega)).1 (by rw [List.getElem?_map, hxi]; rfl)
        rw [hxi] at hE
        rw [hi] at hg
        rw [h1, h2]
        exact ih e _ l m _ _ hg hE
      · cases h
    · rename_i fs ds ht
      obtain ⟨xs, m, rfl, hx, hcl, hxl, hel⟩ := DataW.trod_struct ht hd
      rw [Option.bind_eq_some_iff] at h
      obtain ⟨ls, hls, h⟩ := h
      split at h
      · rename_i hchk
        simp only [Bool.and_eq_true, beq_iff_eq, List.all_eq_true, List.mem_range] at hchk
        obtain ⟨⟨⟨hsz, hfl⟩, hdl⟩, hall⟩ := hchk
        simp at h hx
        obtain ⟨rfl, _⟩ := hx
        subst h
        refine fits_chunks ls cs (by rw [hcl, hsz]) fun i l hi => ?_
        have hil : i < ls.length := (List.getElem?_eq_some_iff.1 hi).1
        have hfi : fs[i]? = some (fs[i]'(by omega)) := Array.getElem?_eq_getElem (by omega)
        have hh := hall i hil
        rw [hfi] at hh
        simp only [Option.any_some, Bool.and_eq_true, beq_iff_eq] at hh
        obtain ⟨h1, h2⟩ := hh
        have e1 : (ls.getD i []) = l := by rw [List.getD_eq_getElem?_getD, hi]; rfl
        rw [e1] at h2
        have hE := hel i _ hfi
        have hxi : xs[i]? = some (xs[i]'(by omega)) := List.getElem?_eq_getElem (by omega)
        have hg := mapM_some_get hls i (fs[i]'(by omega), (xs[i]'(by omega)).1) (by
          rw [List.getElem?_zip_eq_some]
          exact ⟨by simp, by rw [List.getElem?_map, hxi]; rfl⟩)
        rw [hxi] at hE
        rw [hi] at hg
        rw [h1, h2]
        exact ih _ _ l m _ _ hg hE
      · cases h
    · rename_i e ds ht
      split at h
      · rename_i hc
        rw [beq_iff_eq] at hc
        rw [Option.map_eq_some_iff] at h
        obtain ⟨xs, hxs, rfl⟩ := h
        have hl : xs.length = ds.length := mapM_some_length hxs
        obtain ⟨a, cap, rfl, hcap, hcell⟩ := open_row ht hc hd
        refine ⟨⟨a, cap, by rw [hl], by omega, fun j x hj => ?_⟩, trivial⟩
        have hjl : j < ds.length := by rw [← hl]; exact (List.getElem?_eq_some_iff.1 hj).1
        have hdj : ds[j]? = some (ds[j]'hjl) := List.getElem?_eq_getElem hjl
        have hg := mapM_some_get hxs j _ hdj
        rw [hj, Option.bind_eq_some_iff] at hg
        obtain ⟨l, hl1, hl2⟩ := hg
        obtain ⟨v, m, q, hv, htr⟩ := hcell j _ hdj
        have hf := ih e _ l m [v] q hl1 htr
        rw [hv]
        match l, hl2, hf with
        | [.v y], hl2, hf =>
          simp [plain] at hl2
          have : v = y := hf.1
          rw [this, hl2]
      · cases h
    · cases h
/-- The cells of a listed variable. -/
theorem cells_of {P : Program} {w : World} {n : String} {g : Nat} {cs : Array Value} {t : TypeId} {d : DataW Unit} {fuel m : Nat} {p : List MemPlace} {l : List Cl} (hg : P.globalNamed n = some g) (hv : w.var? P n = some cs)
    (hd : DataW.trod (fun _ => ()) P w 0 (fun _ => true) false fuel t cs.toList = some (d, p)) (hl : lay P m t d = some l) : ∀ i c, l[i]? = some c → ∃ x, w.cell? ⟨g, i, none⟩ = some x ∧ c.fits w x := by
  intro i c hi
  obtain ⟨x, hx, hf⟩ := (lay_fits m t d l fuel cs.toList p hl hd).get i c hi
  exact ⟨x, by rw [World.var?_cell hg hv i]; simpa using hx, hf⟩
end Go.Proofs.YtkafmpdjpjgkgaaDoor.Tabs
/- DERIVED. What the program's two tables hold, cell by cell. By an AI agent. -/
namespace Go.Proofs.YtkafmpdjpjgkgaaDoor.Tp
open Go Go.ChangeShapes Go.WideShapes Go.ChangeAt Go.RowKit Tabs
set_option linter.unusedVariables false
structure Fld where
  of : Nat
  low : Nat
  wid : Nat
  least : Int
  most : Int
def flds : List Fld := [⟨0, 0, 3, 0, 7⟩, ⟨0, 8, 3, 0, 7⟩, ⟨0, 8, 4, 0, 13⟩, ⟨1, 3, 3, 0, 7⟩, ⟨2, 3, 3, 0, 7⟩, ⟨2, 6, 3, 0, 7⟩, ⟨3, 0, 8, 0, 255⟩, ⟨3, 6, 5, 0, 31⟩, ⟨3, 6, 5, 1, 32⟩, ⟨3, 6, 3, 0, 7⟩, ⟨3, 6, 4, 0, 15⟩, ⟨3, 0, 11, -1024, 1023⟩, ⟨3, 0, 8, -128, 127⟩]
structure Shp where
  head : Nat
  low : Nat
  has : List Nat
def shps : List Shp := [⟨4, 11, [1, 6]⟩, ⟨5, 11, [1, 6]⟩, ⟨6, 11, [1, 6]⟩, ⟨7, 11, [1, 6]⟩, ⟨0, 11, [7, 4, 0]⟩, ⟨1, 11, [8, 4, 0]⟩, ⟨2, 11, [8, 4, 0]⟩, ⟨12, 9, [5, 3, 0]⟩, ⟨13, 9, [5, 3, 0]⟩, ⟨14, 9, [9, 3, 0]⟩, ⟨15, 9, [9, 3, 0]⟩, ⟨16, 10, [10, 4, 0]⟩, ⟨13, 11, [7, 3, 0]⟩, ⟨12, 11, [7, 3, 0]⟩, ⟨44, 9, [5, 3, 0]⟩, ⟨40, 9, [5, 3, 0]⟩, ⟨9, 11, [1, 6]⟩, ⟨28, 11, [11]⟩, ⟨13, 12, [2, 12]⟩, ⟨48896, 0, []⟩, ⟨190, 8, [6]⟩]
def fldN (k : Nat) : Fld := flds[k]?.getD ⟨0, 0, 0, 0, 0⟩
def shpN (k : Nat) : Shp := shps[k]?.getD ⟨0, 0, []⟩
def fcells (k : Nat) : List Cl := [.v (.int .i64 (fldN k).of), .v (.int .u64 (fldN k).low), .v (.int .u64 (fldN k).wid), .v (.int .i64 (fldN k).least), .v (.int .i64 (fldN k).most)]
def scells (k : Nat) : List Cl := [.v (.int .u16 (shpN k).head), .v (.int .u64 (shpN k).low), .row ((shpN k).has.map fun x : Nat => .int .i64 (x : Int))]
theorem flat_get {α : Type} (f : Nat → List α) (c : Nat) (hf : ∀ i, (f i).length = c) : ∀ (n i j : Nat), i < n → j < c → ((List.range n).flatMap f)[c * i + j]? = (f i)[j]?
  | 0, i, j, h, _ => by omega
  | n + 1, i, j, h, hj => by
    have hl : ∀ m, ((List.range m).flatMap f).length = c * m := fun m => by
      induction m with
      | zero => simp
      | succ m ih => rw [List.range_succ, List.flatMap_append, List.length_append, ih]; simp [hf, Nat.mul_succ]
    rw [List.range_succ, List.flatMap_append]
    by_cases hi : i < n
    · have : c * i + j < c * n := Nat.lt_of_lt_of_le (by rw [Nat.mul_succ]; omega : c * i + j < c * (i + 1)) (Nat.mul_le_mul_left c hi)
      rw [List.getElem?_append_left (by rw [hl]; exact this)]
      exact flat_get f c hf n i j hi hj
    · have : i = n := by omega
      subst this
      rw [List.getElem?_append_right (by rw [hl]; omega), hl]
      simp
theorem lay_f : lay Tryd.prog 6 116 Rows.laid_bauta_thumb_fields = some ((List.range 13).flatMap fcells) := by kernel_rfl
theorem lay_s : lay Tryd.prog 6 113 Rows.laid_bauta_thumb_shapes = some ((List.range 21).flatMap scells) := by kernel_rfl
theorem gf : Tryd.prog.globalNamed "bauta/thumb.fields" = some 1 := by kernel_rfl
theorem gs : Tryd.prog.globalNamed "bauta/thumb.shapes" = some 0 := by kernel_rfl
theorem tf : (Tryd.prog.globals[1]?).map (fun x => x.type) = some 116 := by kernel_rfl
theorem ts : (Tryd.prog.globals[0]?).map (fun x => x.type) = some 113 := by kernel_rfl
/-- The tables lie in the world as the program's text has them. -/
structure Tb (w : World) : Prop where
  f : ∀ k j c, k < 13 → (fcells k)[j]? = some c → ∃ x, w.cell? ⟨1, 5 * k + j, none⟩ = some x ∧ c.fits w x
  s : ∀ k j c, k < 21 → (scells k)[j]? = some c → ∃ x, w.cell? ⟨0, 3 * k + j, none⟩ = some x ∧ c.fits w x
theorem fits_below {w w' : World} (hb : Below w.heap.size w w') {c : Cl} {x : Value} (h : c.fits w x) : c.fits w' x := by
  cases c with
  | v y => exact h
  | row xs =>
    obtain ⟨a, cap, h1, h2, h3⟩ := h
    exact ⟨a, cap, h1, h2, fun j y hj => by rw [hb.cell (World.block_lt_of_cell? w _ (h3 j y hj))]; exact h3 j y hj⟩
theorem Tb.below {w w' : World} (h : Tb w) (hb : Below w.heap.size w w') : Tb w' := by
  refine ⟨fun k j c hk hc => ?_, fun k j c hk hc => ?_⟩
  · obtain ⟨x, hx, hf⟩ := h.f k j c hk hc
    exact ⟨x, by rw [hb.cell (World.block_lt_of_cell? w _ hx)]; exact hx, fits_below hb hf⟩
  · obtain ⟨x, hx, hf⟩ := h.s k j c hk hc
    exact ⟨x, by rw [hb.cell (World.block_lt_of_cell? w _ hx)]; exact hx, fits_below hb hf⟩
theorem of_laid {W : World} (h : laidMetH Tryd.prog [("bauta/thumb.fields", Rows.laid_bauta_thumb_fields), ("bauta/thumb.shapes", Rows.laid_bauta_thumb_shapes)] W) : Tb W := by
  rw [MakeChecks.laidMetH_plain _ _ _ (by kernel_rfl)] at h
  obtain ⟨ps, ⟨g0, t0, cs0, f0, p0, q0, hg0, ht0, hv0, hd0, ⟨g1, t1, cs1, f1, p1, q1, hg1, ht1, hv1, hd1, _, _⟩, _⟩, _, _⟩ := h
  obtain rfl := Option.some.inj (gf.symm.trans hg0)
  obtain rfl := Option.some.inj (tf.symm.trans ht0)
  obtain rfl := Option.some.inj (gs.symm.trans hg1)
  obtain rfl := Option.some.inj (ts.symm.trans ht1)
  refine ⟨fun k j c hk hc => ?_, fun k j c hk hc => ?_⟩
  · have hj : j < 5 := (List.getElem?_eq_some_iff.1 hc).1
    exact cells_of hg0 hv0 hd0 lay_f (5 * k + j) c (by rw [flat_get fcells 5 (fun _ => rfl) 13 k j hk hj]; exact hc)
  · have hj : j < 3 := (List.getElem?_eq_some_iff.1 hc).1
    exact cells_of hg1 hv1 hd1 lay_s (3 * k + j) c (by rw [flat_get scells 3 (fun _ => rfl) 21 k j hk hj]; exact hc)
theorem Tb.f0 {w : World} (h : Tb w) (k : Nat) (hk : k < 13) : w.cell? ⟨1, k * 5, none⟩ = some (.int .i64 (fldN k).of) := by obtain ⟨x, hx, hf⟩ := h.f k 0 _ hk rfl; rw [Nat.mul_comm k]; exact hx.trans (congrArg some hf)
theorem Tb.f1 {w : World} (h : Tb w) (k : Nat) (hk : k < 13) : w.cell? ⟨1, k * 5 + 1, none⟩ = some (.int .u64 (fldN k).low) := by obtain ⟨x, hx, hf⟩ := h.f k 1 _ hk rfl; rw [Nat.mul_comm k]; exact hx.trans (congrArg some hf)
theorem Tb.f2 {w : World} (h : Tb w) (k : Nat) (hk : k < 13) : w.cell? ⟨1, k * 5 + 2, none⟩ = some (.int .u64 (fldN k).wid) := by obtain ⟨x, hx, hf⟩ := h.f k 2 _ hk rfl; rw [Nat.mul_comm k]; exact hx.trans (congrArg some hf)
theorem Tb.f3 {w : World} (h : Tb w) (k : Nat) (hk : k < 13) : w.cell? ⟨1, k * 5 + 3, none⟩ = some (.int .i64 (fldN k).least) := by obtain ⟨x, hx, hf⟩ := h.f k 3 _ hk rfl; rw [Nat.mul_comm k]; exact hx.trans (congrArg some hf)
theorem Tb.f4 {w : World} (h : Tb w) (k : Nat) (hk : k < 13) : w.cell? ⟨1, k * 5 + 4, none⟩ = some (.int .i64 (fldN k).most) := by obtain ⟨x, hx, hf⟩ := h.f k 4 _ hk rfl; rw [Nat.mul_comm k]; exact hx.trans (congrArg some hf)
theorem Tb.s0 {w : World} (h : Tb w) (k : Nat) (hk : k < 21) : w.cell? ⟨0, k * 3, none⟩ = some (.int .u16 (shpN k).head) := by obtain ⟨x, hx, hf⟩ := h.s k 0 _ hk rfl; rw [Nat.mul_comm k]; exact hx.trans (congrArg some hf)
theorem Tb.s1 {w : World} (h : Tb w) (k : Nat) (hk : k < 21) : w.cell? ⟨0, k * 3 + 1, none⟩ = some (.int .u64 (shpN k).low) := by obtain ⟨x, hx, hf⟩ := h.s k 1 _ hk rfl; rw [Nat.mul_comm k]; exact hx.trans (congrArg some hf)
theorem Tb.s2 {w : World} (h : Tb w) (k : Nat) (hk : k < 21) : ∃ a cap, w.cell? ⟨0, k * 3 + 2, none⟩ = some (.slice (some a) (shpN k).has.length cap) ∧ ∀ j x : Nat, (shpN k).has[j]? = some x → w.cell? (a.add j) = some (.int .i64 (x : Int)) := by
  obtain ⟨x, hx, a, cap, h1, h2, h3⟩ := h.s k 2 _ hk rfl
  refine ⟨a, cap, by rw [Nat.mul_comm k, hx, h1]; simp, fun j x hj => h3 j _ (by rw [List.getElem?_map, hj]; rfl)⟩
theorem Tb.gs {w : World} (h : Tb w) : 0 < w.heap.size := World.block_lt_of_cell? w _ (h.s0 0 (by decide))
theorem Tb.gf {w : World} (h : Tb w) : 1 < w.heap.size := World.block_lt_of_cell? w _ (h.f0 0 (by decide))
end Go.Proofs.YtkafmpdjpjgkgaaDoor.Tp
/- DERIVED. Contracts of the reference's shapes and bounds of instructions. By an AI agent. -/
namespace Go.Proofs.YtkafmpdjpjgkgaaDoor.ThRef
open Go.ChangeShapes Go.WideShapes Go.ChangeAt Go.RowKit
set_option linter.unusedVariables false
def shapes : List ByteArray := [
  ⟨#[48, 48, 49, 48, 48, 100, 100, 100, 105, 105, 105, 105, 105, 105, 105, 105]⟩,
  ⟨#[48, 48, 49, 48, 49, 100, 100, 100, 105, 105, 105, 105, 105, 105, 105, 105]⟩,
  ⟨#[48, 48, 49, 49, 48, 100, 100, 100, 105, 105, 105, 105, 105, 105, 105, 105]⟩,
  ⟨#[48, 48, 49, 49, 49, 100, 100, 100, 105, 105, 105, 105, 105, 105, 105, 105]⟩,
  ⟨#[48, 48, 48, 48, 48, 105, 105, 105, 105, 105, 109, 109, 109, 100, 100, 100]⟩,
  ⟨#[48, 48, 48, 48, 49, 105, 105, 105, 105, 105, 109, 109, 109, 100, 100, 100]⟩,
  ⟨#[48, 48, 48, 49, 48, 105, 105, 105, 105, 105, 109, 109, 109, 100, 100, 100]⟩,
  ⟨#[48, 48, 48, 49, 49, 48, 48, 109, 109, 109, 110, 110, 110, 100, 100, 100]⟩,
  ⟨#[48, 48, 48, 49, 49, 48, 49, 109, 109, 109, 110, 110, 110, 100, 100, 100]⟩,
  ⟨#[48, 48, 48, 49, 49, 49, 48, 105, 105, 105, 110, 110, 110, 100, 100, 100]⟩,
  ⟨#[48, 48, 48, 49, 49, 49, 49, 105, 105, 105, 110, 110, 110, 100, 100, 100]⟩,
  ⟨#[48, 49, 48, 48, 48, 48, 105, 105, 105, 105, 109, 109, 109, 100, 100, 100]⟩,
  ⟨#[48, 49, 49, 48, 49, 105, 105, 105, 105, 105, 110, 110, 110, 100, 100, 100]⟩,
  ⟨#[48, 49, 49, 48, 48, 105, 105, 105, 105, 105, 110, 110, 110, 100, 100, 100]⟩,
  ⟨#[48, 49, 48, 49, 49, 48, 48, 109, 109, 109, 110, 110, 110, 100, 100, 100]⟩,
  ⟨#[48, 49, 48, 49, 48, 48, 48, 109, 109, 109, 110, 110, 110, 100, 100, 100]⟩,
  ⟨#[48, 49, 48, 48, 49, 100, 100, 100, 105, 105, 105, 105, 105, 105, 105, 105]⟩,
  ⟨#[49, 49, 49, 48, 48, 105, 105, 105, 105, 105, 105, 105, 105, 105, 105, 105]⟩,
  ⟨#[49, 49, 48, 49, 99, 99, 99, 99, 105, 105, 105, 105, 105, 105, 105, 105]⟩,
  ⟨#[49, 48, 49, 49, 49, 49, 49, 49, 48, 48, 48, 48, 48, 48, 48, 48]⟩,
  ⟨#[49, 48, 49, 49, 49, 49, 49, 48, 105, 105, 105, 105, 105, 105, 105, 105]⟩]
def lows : List Int := [0, 0, 0, 0, 0, 1, 1, 0, 0, 0, 0, 0, 0, 0, 0, 0, 0, -1024, -128, 0, 0]
def highs : List Int := [255, 255, 255, 255, 31, 32, 32, 0, 0, 7, 7, 15, 31, 31, 0, 0, 255, 1023, 127, 0, 255]
def lowN (op : Nat) : Int := lows[op]?.getD 0
def highN (op : Nat) : Int := highs[op]?.getD 0
def shapeN (op : Nat) : ByteArray := shapes[op]?.getD ⟨#[]⟩
theorem pick {α : Type} (l : List α) (f : α → Value) (i : Nat) (d : α) (h : i < (l.map f).length) : (l.map f)[i]'h = f (l[i]?.getD d) := by
  rw [List.getElem_map, List.getElem?_eq_getElem (by simpa using h)]; rfl
theorem low (op : Nat) (h : op < 21) (w : World) : Calls Tryd.prog 36 #[.int .i64 op] w fun e w' => e = .returned (.int .i64 (lowN op)) ∧ Below w.heap.size w w' := by
  go_enter Tryd.func36, Tryd.ntmps36
  go_wp2
  go_ret
  refine ⟨?_, (Below.refl _ _).alloc (Nat.le_refl _) _⟩
  exact congrArg Ending.returned (pick lows (Value.int .i64) op 0 h)
theorem high (op : Nat) (h : op < 21) (w : World) : Calls Tryd.prog 37 #[.int .i64 op] w fun e w' => e = .returned (.int .i64 (highN op)) ∧ Below w.heap.size w w' := by
  go_enter Tryd.func37, Tryd.ntmps37
  go_wp2
  go_ret
  refine ⟨?_, (Below.refl _ _).alloc (Nat.le_refl _) _⟩
  exact congrArg Ending.returned (pick highs (Value.int .i64) op 0 h)
theorem shape (op : Nat) (h : op < 21) (w : World) : Calls Tryd.prog 35 #[.int .i64 op] w fun e w' => e = .returned (.string (shapeN op)) ∧ Below w.heap.size w w' := by
  go_enter Tryd.func35, Tryd.ntmps35
  go_wp2
  go_ret
  refine ⟨?_, (Below.refl _ _).alloc (Nat.le_refl _) _⟩
  exact congrArg Ending.returned (pick shapes Value.string op ⟨#[]⟩ h)
theorem idx_s (s : ByteArray) (k : Nat) (hk : k < s.size) (w : World) : (Instr.index 9 (.string s) (.int .i64 (k : Int))).run Tryd.prog w = .ok (.int .u8 ((s[k].toNat : Nat) : Int)) w := by
  rw [run_index_string w 9 s .i64 k Tryd.underlying9, dif_pos ⟨by omega, by omega⟩]
  have e : ((k : Int)).toNat = k := by omega
  simp only [e]
/-- Whether a text has a letter. -/
def hasB (s : ByteArray) (c : Nat) : Bool := s.data.toList.any fun x => x.toNat == c
theorem any_take (s : ByteArray) (c k : Nat) (hk : k < s.size) : (s.data.toList.take (k + 1)).any (fun x => x.toNat == c) = ((s.data.toList.take k).any (fun x => x.toNat == c) || (s[k].toNat == c)) := by
  rw [List.take_succ_eq_append_getElem (by simpa using hk), List.any_append]
  simp
  rfl
set_option maxHeartbeats 400000 in
theorem has (s : ByteArray) (c : Nat) (hs : s.size ≤ 64) (hc : c < 256) (w : World) : Calls Tryd.prog 53 #[.string s, .int .u8 c] w fun e w' => e = .returned (.bool (hasB s c)) ∧ w = w' := by
  go_enter Tryd.func53, Tryd.ntmps53
  go_wp2
  go_loop [5] (fun vi => ∃ k : Nat, k ≤ s.size ∧ vi = .int .i64 k ∧ Hid ((s.data.toList.take k).any (fun x => x.toNat == c) = false)) (fun vi => s.size - (intOf vi).toNat)
  case atStart => exact ⟨0, by omega, rfl, Lib.hid rfl⟩
  case round =>
    obtain ⟨k, hk, rfl, HI⟩ := hrel
    by_cases hlt : k < s.size
    · have hx := idx_s s k hlt
      have hst := any_take s c k hlt
      rw [HI.out] at hst
      generalize s[k].toNat = x at hx hst
      by_cases hxc : x = c
      · have hfin : hasB s c = true := by
          unfold hasB
          rw [← List.take_append_drop (k + 1) s.data.toList, List.any_append, hst]
          simp [hxc]
        have e1 : ((x : Int) == (c : Int)) = true := by simp [hxc]
        have HF := Lib.hid hfin
        clear hfin hst hxc
        go_wp2
        go_ret
        exact ⟨by rw [HF.out]; rfl, rfl⟩
      · have e1 : ((x : Int) == (c : Int)) = false := by simp; omega
        have hst2 : (s.data.toList.take (k + 1)).any (fun x => x.toNat == c) = false := by rw [hst]; simp [hxc]
        have HS := Lib.hid hst2
        clear hst hst2 hxc
        go_wp2
        go_round
        case rel => exact ⟨k + 1, by omega, by go_num, HS⟩
        case measure => simp [intOf]; omega
    · have hfin : hasB s c = false := by
        have h := HI.out
        rw [List.take_of_length_le (by simp; omega)] at h
        exact h
      have HF := Lib.hid hfin
      clear hfin
      go_wp2
      go_ret
      exact ⟨by rw [HF.out]; rfl, rfl⟩
end Go.Proofs.YtkafmpdjpjgkgaaDoor.ThRef
/- DERIVED. Contracts of the program's fields: where the number is, the mask, what is put and what is taken. By an AI agent. -/
namespace Go.Proofs.YtkafmpdjpjgkgaaDoor.Tp
open Go.ChangeShapes Go.WideShapes Go.ChangeAt Go.RowKit Go.Sort
set_option linter.unusedVariables false
abbrev fagg (f : Fld) : Value := .agg #[.int .i64 f.of, .int .u64 f.low, .int .u64 f.wid, .int .i64 f.least, .int .i64 f.most]
theorem number (f : Fld) (b : Nat) (w : World) : Calls Tryd.prog 66 #[fagg f, .pointer (some ⟨b, 0, none⟩)] w fun e w' => e = .returned (.pointer (some ⟨b, 1 + min f.of 3, none⟩)) ∧ Below w.heap.size w w' := by
  obtain ⟨of, low, wid, least, most⟩ := f
  by_cases h0 : of = 0
  · subst h0
    go_enter Tryd.func66, Tryd.ntmps66
    go_wp2
    go_ret
    exact ⟨rfl, (Below.refl _ _).alloc (Nat.le_refl _) _⟩
  by_cases h1 : of = 1
  · subst h1
    go_enter Tryd.func66, Tryd.ntmps66
    go_wp2
    go_ret
    exact ⟨rfl, (Below.refl _ _).alloc (Nat.le_refl _) _⟩
  by_cases h2 : of = 2
  · subst h2
    go_enter Tryd.func66, Tryd.ntmps66
    go_wp2
    go_ret
    exact ⟨rfl, (Below.refl _ _).alloc (Nat.le_refl _) _⟩
  have e : 1 + min of 3 = 4 := by omega
  have e0 : ((of : Int) == 0) = false := by simp; omega
  have e1 : ((of : Int) == 1) = false := by simp; omega
  have e2 : ((of : Int) == 2) = false := by simp; omega
  have E := Lib.hid e
  clear h0 h1 h2 e
  go_enter Tryd.func66, Tryd.ntmps66
  go_wp2
  go_ret
  exact ⟨by show _ = Ending.returned (.pointer (some ⟨b, 1 + min of 3, none⟩)); rw [E.out]; rfl, (Below.refl _ _).alloc (Nat.le_refl _) _⟩
theorem pow_wrap (wid : Nat) (h : wid ≤ 11) : wrap64 (wrap64 (2 ^ wid) - 1) = ((2 ^ wid - 1 : Nat) : Int) := by
  have : ∀ i : Fin 12, wrap64 (wrap64 (2 ^ i.val) - 1) = ((2 ^ i.val - 1 : Nat) : Int) := by decide +kernel
  exact this ⟨wid, by omega⟩
theorem mask (f : Fld) (h : f.wid ≤ 11) (w : World) : Calls Tryd.prog 81 #[fagg f] w fun e w' => e = .returned (.int .i64 ((2 ^ f.wid - 1 : Nat) : Int)) ∧ Below w.heap.size w w' := by
  obtain ⟨of, low, wid, least, most⟩ := f
  have hp := pow_wrap wid h
  have HP := Lib.hid hp
  clear hp
  have h' : wid ≤ 11 := h
  go_enter Tryd.func81, Tryd.ntmps81
  go_wp2
  go_ret
  refine ⟨?_, (Below.refl _ _).alloc (Nat.le_refl _) _⟩
  rw [← HP.out]; rfl
theorem pow_le (w : Nat) (hw : w ≤ 11) : 2 ^ w ≤ 2048 := Nat.le_trans (Nat.pow_le_pow_right (by decide) hw) (by decide)
theorem and_mask (n : Int) (w : Nat) (hw : w ≤ 11) : bits .and .i64 n ((2 ^ w - 1 : Nat) : Int) = n % ((2 ^ w : Nat) : Int) := by
  have hp := pow_le w hw
  have hp0 : 0 < 2 ^ w := Nat.two_pow_pos w
  have e : (BitVec.ofInt 64 n &&& BitVec.ofInt 64 ((2 ^ w - 1 : Nat) : Int)).toNat = (n % ((2 ^ w : Nat) : Int)).toNat := by
    rw [BitVec.toNat_and, BitVec.toNat_ofInt, BitVec.toNat_ofInt]
    have h2 : (((2 ^ w - 1 : Nat) : Int) % ((2 ^ 64 : Nat) : Int)).toNat = 2 ^ w - 1 := by
      rw [Int.emod_eq_of_lt (by omega) (by omega)]; omega
    rw [h2, Nat.and_two_pow_sub_one_eq_mod]
    have hd : ((2 ^ w : Nat) : Int) ∣ ((2 ^ 64 : Nat) : Int) := Int.natCast_dvd_natCast.2 (Nat.pow_dvd_pow 2 (by omega))
    have h3 : (n % ((2 ^ 64 : Nat) : Int)) % ((2 ^ w : Nat) : Int) = n % ((2 ^ w : Nat) : Int) := Int.emod_emod_of_dvd n hd
    rw [← h3]
    have h0 : 0 ≤ n % ((2 ^ 64 : Nat) : Int) := Int.emod_nonneg _ (by decide)
    generalize n % ((2 ^ 64 : Nat) : Int) = m at h0
    obtain ⟨k, rfl⟩ := Int.eq_ofNat_of_zero_le h0
    rw [← Int.natCast_emod, Int.toNat_natCast, Int.toNat_natCast]
  show IntKind.i64.wrap ((BitVec.ofInt 64 n &&& BitVec.ofInt 64 ((2 ^ w - 1 : Nat) : Int)).toNat : Int) = _
  rw [e]
  have h0 : 0 ≤ n % ((2 ^ w : Nat) : Int) := Int.emod_nonneg _ (by omega)
  have h1 : n % ((2 ^ w : Nat) : Int) < ((2 ^ w : Nat) : Int) := Int.emod_lt_of_pos _ (by omega)
  rw [Int.toNat_of_nonneg h0]
  exact IntWalk.i64_in _ (by omega)
def takeN (f : Fld) (h : Nat) : Int := f.least + (((h / 2 ^ f.low : Nat) : Int) - f.least) % ((2 ^ f.wid : Nat) : Int)
theorem take_wrap (n wid low : Nat) (least : Int) (hn : n < 65536) (h : wid ≤ 11) (hl : low ≤ 15) (h0 : -1024 ≤ least) (h1 : least ≤ 1) :
    wrap64 (least + wrap64 (wrap64 ((n : Int) / 2 ^ low) - least) % ((2 ^ wid : Nat) : Int)) = least + (((n / 2 ^ low : Nat) : Int) - least) % ((2 ^ wid : Nat) : Int) := by
  have hp := pow_le wid h
  have e : ((n : Int) / 2 ^ low) = ((n / 2 ^ low : Nat) : Int) := by rw [Int.natCast_ediv, Int.natCast_pow]; rfl
  rw [e]
  have hq : n / 2 ^ low ≤ n := Nat.div_le_self _ _
  generalize n / 2 ^ low = q at hq
  rw [IntWalk.wrap64_in (q : Int) (by omega), IntWalk.wrap64_in ((q : Int) - least) (by omega)]
  have m0 : 0 ≤ ((q : Int) - least) % ((2 ^ wid : Nat) : Int) := Int.emod_nonneg _ (by have := Nat.two_pow_pos wid; omega)
  have m1 : ((q : Int) - least) % ((2 ^ wid : Nat) : Int) < ((2 ^ wid : Nat) : Int) := Int.emod_lt_of_pos _ (by have := Nat.two_pow_pos wid; omega)
  exact IntWalk.wrap64_in _ (by omega)
set_option maxHeartbeats 400000 in
theorem take (f : Fld) (n : Nat) (hn : n < 65536) (h : f.wid ≤ 11) (hlw : f.low ≤ 15) (hl0 : -1024 ≤ f.least) (hl1 : f.least ≤ 1) (w : World) : Calls Tryd.prog 65 #[fagg f, .int .u16 n] w fun e w' => e = .returned (.int .i64 (takeN f n)) ∧ Below w.heap.size w w' := by
  obtain ⟨of, low, wid, least, most⟩ := f
  have hm := fun n => and_mask n wid h
  have hmk := mask ⟨of, low, wid, least, most⟩ h
  have HM := Lib.hid hm; have HMK := Lib.hid hmk
  clear hm hmk
  have h' : wid ≤ 11 := h
  have hlw' : low ≤ 15 := hlw
  have hl0' : -1024 ≤ least := hl0
  have hl1' : least ≤ 1 := hl1
  clear h hlw hl0 hl1
  go_enter Tryd.func65, Tryd.ntmps65
  go_wp2
  have hcc : ∀ j, (w.alloc (.cells #[.int .i64 of, .int .u64 low, .int .u64 wid, .int .i64 least, .int .i64 most] 115)).cell? ⟨w.heap.size, j, none⟩ = _ := fun j => World.cell?_alloc_at _ _ _ _ rfl
  have r0 := fun d os => cell_regrown (hcc 0) d os
  have r1 := fun d os => cell_regrown (hcc 1) d os
  have r2 := fun d os => cell_regrown (hcc 2) d os
  have r3 := fun d os => cell_regrown (hcc 3) d os
  have r4 := fun d os => cell_regrown (hcc 4) d os
  clear hcc
  refine wp_region_quiet_below (by kernel_rfl) (by kernel_rfl) ?_
  repeat (go_big_quiet_step ((go_at_call 81; exact Calls.regrown_of (HMK.out _))))
  refine wpQuiet_nil ?_
  intro _ hw'
  obtain ⟨⟨dq, osq⟩, hw''⟩ := hw'
  subst hw''
  go_wp2_with fail
  go_ret
  refine ⟨?_, ((Below.refl _ _).alloc (Nat.le_refl _) _).trans ((below_regrown _ dq osq).mono (by simp))⟩
  show Ending.returned (.int .i64 (wrap64 (least + bits BinOp.and IntKind.i64 (wrap64 (wrap64 ((n : Int) / 2 ^ low) - least)) ((2 ^ wid - 1 : Nat) : Int)))) = _
  rw [HM.out, take_wrap n wid low least hn h' hlw' hl0' hl1']
  rfl
end Go.Proofs.YtkafmpdjpjgkgaaDoor.Tp
