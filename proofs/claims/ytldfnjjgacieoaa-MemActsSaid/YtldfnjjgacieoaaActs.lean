/- DERIVED. Of no program: what an argument that is a slice of structs of an integer and two words says of the memory. By an AI agent. -/
import Derived.Test.YtldfnjjgacieoaaArgs
import Derived.Test.YtldfnjjgacieoaaRows
namespace Go.Proofs.Ytldfnjjgacieoaa.Args
open Go Go.ChangeShapes Go.WideShapes Go.ChangeAt Go.RowKit
set_option linter.unusedVariables false
structure Ac where
  k : Int
  a : Int
  u : Int
def Ac.cells (c : Ac) : List Value := [.int .i64 c.k, .int .u32 c.a, .int .u32 c.u]
def Ac.Ok (c : Ac) : Prop := (Lit.int .i64 c.k).wf = true ∧ (Lit.int .u32 c.a).wf = true ∧ (Lit.int .u32 c.u).wf = true
structure Acs (w : World) (v : Value) (l : List Ac) : Prop where
  ex : ∃ A cap, v = .slice A l.length cap ∧ l.length ≤ cap ∧ cap ≤ maxLen ∧ Lies w A (l.flatMap Ac.cells)
  wf : ∀ c ∈ l, c.Ok
  reach : l.length * 16 ≤ 140737488351232
section
variable {H : Type} {enc : TypeId × Value → H} {P : Program} {w : World} {base : Nat} {spare : Nat → Bool} {held : Bool} {fuel : Nat}
theorem flat3 (l : List Ac) (i : Nat) (c : Ac) (h : l[i]? = some c) : (l.flatMap Ac.cells)[i * 3]? = some (.int .i64 c.k) ∧ (l.flatMap Ac.cells)[i * 3 + 1]? = some (.int .u32 c.a) ∧ (l.flatMap Ac.cells)[i * 3 + 2]? = some (.int .u32 c.u) := by
  induction l generalizing i with
  | nil => simp at h
  | cons d l ih =>
    cases i with
    | zero => simp at h; subst h; exact ⟨rfl, rfl, rfl⟩
    | succ i =>
      simp at h
      obtain ⟨h1, h2, h3⟩ := ih i h
      rw [List.flatMap_cons, show (i + 1) * 3 = i * 3 + 1 + 1 + 1 by omega]
      have e4 : i * 3 + 1 + 1 + 1 + 1 = (i * 3 + 1) + 1 + 1 + 1 := by omega
      have e5 : i * 3 + 1 + 1 + 1 + 2 = (i * 3 + 2) + 1 + 1 + 1 := by omega
      rw [e4, e5]
      simp only [Ac.cells, List.cons_append, List.nil_append, List.getElem?_cons_succ]
      exact ⟨h1, h2, h3⟩
theorem flat3_len (l : List Ac) : (l.flatMap Ac.cells).length = l.length * 3 := by
  induction l with
  | nil => rfl
  | cons d l ih => rw [List.flatMap_cons, List.length_append, ih]; simp [Ac.cells]; omega
theorem flat3_in (l : List Ac) (j : Nat) (u : Value) (h : (l.flatMap Ac.cells)[j]? = some u) : ∃ i c, l[i]? = some c ∧ (j = i * 3 ∧ u = .int .i64 c.k ∨ j = i * 3 + 1 ∧ u = .int .u32 c.a ∨ j = i * 3 + 2 ∧ u = .int .u32 c.u) := by
  have hj : j < (l.flatMap Ac.cells).length := (List.getElem?_eq_some_iff.1 h).1
  rw [flat3_len] at hj
  have hi : j / 3 < l.length := by omega
  have hc : l[j / 3]? = some (l[j / 3]'hi) := List.getElem?_eq_getElem hi
  obtain ⟨h1, h2, h3⟩ := flat3 l (j / 3) _ hc
  refine ⟨j / 3, _, hc, ?_⟩
  have hm : j % 3 = 0 ∨ j % 3 = 1 ∨ j % 3 = 2 := by omega
  rcases hm with hm | hm | hm
  · left
    have e : j = j / 3 * 3 := by omega
    rw [← e, h] at h1
    exact ⟨e, Option.some.inj h1⟩
  · right; left
    have e : j = j / 3 * 3 + 1 := by omega
    rw [← e, h] at h2
    exact ⟨e, Option.some.inj h2⟩
  · right; right
    have e : j = j / 3 * 3 + 2 := by omega
    rw [← e, h] at h3
    exact ⟨e, Option.some.inj h3⟩
theorem acs_of {t e ti tw : TypeId} {cs : List Value} {x : DataW H × List MemPlace} {f0 f1 f2 : Field} (ht : P.underlying t = some (.slice e)) (he : P.underlying e = some (.struct #[f0, f1, f2])) (hc : P.cellsOf e = 3) (hb : P.bytesOf e = 16)
    (hf : f0.type = ti ∧ f0.offset = 0 ∧ f1.type = tw ∧ f1.offset = 1 ∧ f2.type = tw ∧ f2.offset = 2) (hti : P.underlying ti = some (.int .i64)) (htw : P.underlying tw = some (.int .u32)) (cti : P.cellsOf ti = 1) (ctw : P.cellsOf tw = 1)
    (h : DataW.trod enc P w base spare held fuel t cs = some x) (hs : (x.1.weights P t).all (· ≤ reachBytes) = true) : ∃ v l, cs = [v] ∧ Acs w v l := by
  rcases DataW.trod_slice ht h with ⟨rfl, _⟩ | ⟨a, len, cap, elems, rest, n, _, rfl, rfl, hbl, hl, hm, hlen, hel, hsp, hns⟩
  · exact ⟨_, [], rfl, ⟨⟨none, 0, rfl, Nat.le_refl _, by decide, Lies.nil _ _⟩, (fun z hz => by cases hz), by simp⟩⟩
  · simp only [DataW.weights, ht, List.all_cons, Bool.and_eq_true, decide_eq_true_eq, List.all_append] at hs
    have each : ∀ i, i < len → ∃ c : Ac, w.cell? (a.add (i * 3)) = some (.int .i64 c.k) ∧ w.cell? (a.add (i * 3 + 1)) = some (.int .u32 c.a) ∧ w.cell? (a.add (i * 3 + 2)) = some (.int .u32 c.u) ∧ c.Ok := fun i hi => by
      have h1 := hel i hi
      rw [hc] at h1
      have hei : elems[i]? = some (elems[i]'(by omega)) := List.getElem?_eq_getElem (by omega)
      rw [hei, Option.bind_eq_some_iff] at h1
      obtain ⟨c1, hc1, ht1⟩ := h1
      obtain ⟨hcb, hcl, hat⟩ := World.cells?_some hc1
      obtain ⟨ys, m, _, hx, _, hyl, hg⟩ := DataW.trod_struct he ht1
      have g0 := hg 0 f0 rfl; have g1 := hg 1 f1 rfl; have g2 := hg 2 f2 rfl
      rw [hf.1, hf.2.1, cti] at g0
      rw [hf.2.2.1, hf.2.2.2.1, ctw] at g1
      rw [hf.2.2.2.2.1, hf.2.2.2.2.2, ctw] at g2
      match c1, hcl, ys, hyl with
      | [x0, x1, x2], _, [y0, y1, y2], _ =>
        simp at g0 g1 g2
        obtain ⟨z0, e0, _, w0⟩ := DataW.trod_int hti g0
        obtain ⟨z1, e1, _, w1⟩ := DataW.trod_int htw g1
        obtain ⟨z2, e2, _, w2⟩ := DataW.trod_int htw g2
        simp at e0 e1 e2
        subst e0 e1 e2
        have a0 := hat 0 (by omega); have a1 := hat 1 (by omega); have a2 := hat 2 (by omega)
        rw [add0] at a0
        rw [add_add] at a1 a2
        exact ⟨⟨z0, z1, z2⟩, a0, a1, a2, w0, w1, w2⟩
    let l : List Ac := (List.range len).map fun i => if hi : i < len then (each i hi).choose else ⟨0, 0, 0⟩
    have hzl : l.length = len := by simp [l]
    have hzi : ∀ i c, l[i]? = some c → w.cell? (a.add (i * 3)) = some (.int .i64 c.k) ∧ w.cell? (a.add (i * 3 + 1)) = some (.int .u32 c.a) ∧ w.cell? (a.add (i * 3 + 2)) = some (.int .u32 c.u) ∧ c.Ok := fun i c hz => by
      have hi : i < len := by rw [← hzl]; exact (List.getElem?_eq_some_iff.1 hz).1
      have : c = (each i hi).choose := by
        simp only [l, List.getElem?_map, List.getElem?_range hi, Option.map_some, Option.some.injEq, dif_pos hi] at hz
        exact hz.symm
      rw [this]
      exact (each i hi).choose_spec
    refine ⟨_, l, rfl, ⟨⟨some a, cap, by rw [hzl], by omega, hm, fun j u hj => ?_⟩, fun c hz => ?_, ?_⟩⟩
    · obtain ⟨i, c, hi, hju⟩ := flat3_in l j u hj
      rcases hju with ⟨rfl, rfl⟩ | ⟨rfl, rfl⟩ | ⟨rfl, rfl⟩
      · exact ⟨a, rfl, (hzi i c hi).1⟩
      · exact ⟨a, rfl, (hzi i c hi).2.1⟩
      · exact ⟨a, rfl, (hzi i c hi).2.2.1⟩
    · obtain ⟨i, hi⟩ := List.getElem?_of_mem hz
      exact (hzi i c hi).2.2.2
    · rw [hzl]
      have h1 := hs.1
      simp only [List.length_map] at h1
      rw [hb, hlen] at h1
      unfold reachBytes at h1
      omega
end
/-- The same at this seat's types. -/
theorem acs {H : Type} {enc : TypeId × Value → H} {w : World} {base : Nat} {spare : Nat → Bool} {held : Bool} {fuel : Nat} {cs : List Value} {x : DataW H × List MemPlace}
    (h : DataW.trod enc Try.prog w base spare held fuel 24 cs = some x) (hs : (x.1.weights Try.prog 24).all (· ≤ reachBytes) = true) : ∃ v l, cs = [v] ∧ Acs w v l :=
  acs_of Try.underlying24 Try.underlying33 (by kernel_rfl) (by kernel_rfl) ⟨rfl, rfl, rfl, rfl, rfl, rfl⟩ Try.underlying3 Try.underlying31 (by kernel_rfl) (by kernel_rfl) h hs
end Go.Proofs.Ytldfnjjgacieoaa.Args
