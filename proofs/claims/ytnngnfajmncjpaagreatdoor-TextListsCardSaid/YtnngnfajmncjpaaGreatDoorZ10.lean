/- DERIVED. Args in one text. By an AI agent. -/
import Derived.ProofKit
import Derived.OpenShut
import Derived.Below
import Derived.SizedLaws
import Derived.WideShapes
import Derived.ChangeSame
import Derived.Laws.OwnMore
import Derived.Deep.Draws
/- DERIVED. Of no program: what arguments that are slices of integers, or of structs of a text and an integer, or structs of both, say of the memory, in plain lists; with the bound on their bytes. By an AI agent. -/
namespace Go.Proofs.YtnngnfajmncjpaaGreatDoor.Args
open Go Go.ChangeShapes Go.WideShapes Go.ChangeAt Go.RowKit
set_option linter.unusedVariables false
theorem add0 (a : Addr) : a.add 0 = a := by simp [Addr.add]
theorem add_add (a : Addr) (i j : Nat) : (a.add i).add j = a.add (i + j) := by
  unfold Addr.add
  by_cases hi : i = 0 <;> by_cases hj : j = 0 <;> simp [hi, hj, Nat.add_assoc]
/-- Behind an address (of none nothing is wanted) these values lie, one a cell. -/
def Lies (w : World) (A : Option Addr) (xs : List Value) : Prop := ∀ j u, xs[j]? = some u → ∃ a, A = some a ∧ w.cell? (a.add j) = some u
theorem Lies.nil (w : World) (A : Option Addr) : Lies w A [] := fun j u h => by simp at h
theorem Lies.below {w w' : World} {A : Option Addr} {xs : List Value} (h : Lies w A xs) (hb : Below w.heap.size w w') : Lies w' A xs := fun j u hj => by
  obtain ⟨a, ha, hc⟩ := h j u hj
  exact ⟨a, ha, by rw [hb.cell (World.block_lt_of_cell? w _ hc)]; exact hc⟩
theorem Lies.kept {w w' : World} {A : Option Addr} {xs : List Value} (h : Lies w A xs) {B : Nat} (hB : B ≤ w.heap.size) (hb : Below B w w') (hA : ∀ j u a, xs[j]? = some u → A = some a → (a.add j).block < B) : Lies w' A xs := fun j u hj => by
  obtain ⟨a, ha, hc⟩ := h j u hj
  exact ⟨a, ha, by rw [hb.cell (hA j u a hj ha)]; exact hc⟩
theorem Lies.drewN {w : World} {A : Option Addr} {xs : List Value} (h : Lies w A xs) (n : Nat) : Lies (w.drewN n) A xs := h
theorem add_plain (b o j : Nat) : (⟨b, o, none⟩ : Addr).add j = ⟨b, o + j, none⟩ := by unfold Addr.add; split <;> simp_all
/-- Where a value lies, in plain numbers. -/
theorem Lies.at_ {w : World} {A : Option Addr} {xs : List Value} (h : Lies w A xs) {j : Nat} {u : Value} (hj : xs[j]? = some u) : ∃ b o, A = some ⟨b, o, none⟩ ∧ b < w.heap.size ∧ ∀ i v, xs[i]? = some v → w.cell? ⟨b, o + i, none⟩ = some v := by
  have h0 : 0 < xs.length := by have := (List.getElem?_eq_some_iff.1 hj).1; omega
  obtain ⟨a, rfl, hc⟩ := h 0 _ (List.getElem?_eq_getElem h0)
  rw [add0] at hc
  obtain ⟨b, o, sp⟩ := a
  have hsp : sp = none := by simpa using World.cell?_spot hc
  subst hsp
  refine ⟨b, o, rfl, World.block_lt_of_cell? w _ hc, fun i v hi => ?_⟩
  obtain ⟨a', e, hc'⟩ := h i v hi
  obtain rfl := Option.some.inj e
  rw [add_plain] at hc'
  exact hc'
/-- A slice of integers of b bytes each. -/
structure Ints (k : IntKind) (b : Nat) (w : World) (v : Value) (zs : List Int) : Prop where
  ex : ∃ A cap, v = .slice A zs.length cap ∧ zs.length ≤ cap ∧ cap ≤ maxLen ∧ Lies w A (zs.map (.int k))
  wf : ∀ z ∈ zs, (Lit.int k z).wf = true
  reach : zs.length * b ≤ 140737488351232
/-- A text and an integer: two cells. -/
structure TI where
  s : ByteArray
  n : Int
def TI.cells (c : TI) : List Value := [.string c.s, .int .i64 c.n]
structure TIs (w : World) (v : Value) (l : List TI) : Prop where
  ex : ∃ A cap, v = .slice A l.length cap ∧ l.length ≤ cap ∧ cap ≤ maxLen ∧ Lies w A (l.flatMap TI.cells)
  wf : ∀ c ∈ l, (Lit.int .i64 c.n).wf = true
  size : ∀ c ∈ l, c.s.size ≤ 140737488351232
  reach : l.length * 24 ≤ 140737488351232
section
variable {H : Type} {enc : TypeId × Value → H} {P : Program} {w : World} {base : Nat} {spare : Nat → Bool} {held : Bool} {fuel : Nat}
theorem all_weights {t : TypeId} {ts : List TypeId} {d : DataW H} {ds : List (DataW H)} (h : (DataW.weightsEach P (t :: ts) (d :: ds)).all (· ≤ reachBytes) = true) :
    (d.weights P t).all (· ≤ reachBytes) = true ∧ (DataW.weightsEach P ts ds).all (· ≤ reachBytes) = true := by
  simp only [DataW.weightsEach, List.all_append, Bool.and_eq_true] at h
  exact h
theorem all_weightsAll {e : TypeId} : ∀ {ds : List (DataW H)} {d : DataW H}, (DataW.weightsAll P e ds).all (· ≤ reachBytes) = true → d ∈ ds → (d.weights P e).all (· ≤ reachBytes) = true
  | [], _, _, hd => by cases hd
  | x :: r, d, h, hd => by
    simp only [DataW.weightsAll, List.all_append, Bool.and_eq_true] at h
    rcases List.mem_cons.1 hd with rfl | hd
    · exact h.1
    · exact all_weightsAll h.2 hd
theorem ints_of {t e : TypeId} {k : IntKind} {b : Nat} {cs : List Value} {x : DataW H × List MemPlace} (ht : P.underlying t = some (.slice e)) (he : P.underlying e = some (.int k)) (hc : P.cellsOf e = 1) (hb : P.bytesOf e = b)
    (h : DataW.trod enc P w base spare held fuel t cs = some x) (hs : (x.1.weights P t).all (· ≤ reachBytes) = true) : ∃ v zs, cs = [v] ∧ Ints k b w v zs := by
  rcases DataW.trod_slice ht h with ⟨rfl, _⟩ | ⟨a, len, cap, elems, rest, n, _, rfl, rfl, hbl, hl, hm, hlen, hel, hsp, hns⟩
  · exact ⟨_, [], rfl, ⟨⟨none, 0, rfl, Nat.le_refl _, by decide, Lies.nil _ _⟩, (fun z hz => by cases hz), by simp⟩⟩
  · simp only [DataW.weights, ht, List.all_cons, Bool.and_eq_true, decide_eq_true_eq] at hs
    have each : ∀ i, i < len → ∃ z : Int, w.cell? (a.add i) = some (.int k z) ∧ (Lit.int k z).wf = true := fun i hi => by
      have h1 := hel i hi
      rw [hc, Nat.mul_one] at h1
      have hei : elems[i]? = some (elems[i]'(by omega)) := List.getElem?_eq_getElem (by omega)
      rw [hei, Option.bind_eq_some_iff] at h1
      obtain ⟨c1, hc1, ht1⟩ := h1
      obtain ⟨z, rfl, _, hw⟩ := DataW.trod_int he ht1
      have h2 := (World.cells?_some hc1).2.2 0 (by omega)
      rw [add0] at h2
      exact ⟨z, h2, hw⟩
    let zs : List Int := (List.range len).map fun i => if hi : i < len then (each i hi).choose else 0
    have hzl : zs.length = len := by simp [zs]
    have hzi : ∀ i z, zs[i]? = some z → w.cell? (a.add i) = some (.int k z) ∧ (Lit.int k z).wf = true := fun i z hz => by
      have hi : i < len := by rw [← hzl]; exact (List.getElem?_eq_some_iff.1 hz).1
      have : z = (each i hi).choose := by
        simp only [zs, List.getElem?_map, List.getElem?_range hi, Option.map_some, Option.some.injEq, dif_pos hi] at hz
        exact hz.symm
      rw [this]
      exact (each i hi).choose_spec
    refine ⟨_, zs, rfl, ⟨⟨some a, cap, by rw [hzl], by omega, hm, fun j u hj => ?_⟩, fun z hz => ?_, ?_⟩⟩
    · rw [List.getElem?_map, Option.map_eq_some_iff] at hj
      obtain ⟨z, hz, rfl⟩ := hj
      exact ⟨a, rfl, (hzi j z hz).1⟩
    · obtain ⟨i, hi⟩ := List.getElem?_of_mem hz
      exact (hzi i z hi).2
    · rw [hzl]
      have h1 := hs.1
      simp only [List.length_map] at h1
      rw [hb, hlen] at h1
      unfold reachBytes at h1
      have : len * b ≤ (len + rest.length) * b := Nat.mul_le_mul_right b (by omega)
      omega
theorem flat2 (l : List TI) (i : Nat) (c : TI) (h : l[i]? = some c) : (l.flatMap TI.cells)[i * 2]? = some (.string c.s) ∧ (l.flatMap TI.cells)[i * 2 + 1]? = some (.int .i64 c.n) := by
  induction l generalizing i with
  | nil => simp at h
  | cons d l ih =>
    cases i with
    | zero => simp at h; subst h; exact ⟨rfl, rfl⟩
    | succ i =>
      simp at h
      obtain ⟨h1, h2⟩ := ih i h
      rw [List.flatMap_cons, show (i + 1) * 2 = i * 2 + 1 + 1 by omega]
      simp only [TI.cells, List.cons_append, List.nil_append, List.getElem?_cons_succ]
      exact ⟨h1, h2⟩
theorem flat2_in (l : List TI) (j : Nat) (u : Value) (h : (l.flatMap TI.cells)[j]? = some u) : ∃ i c, l[i]? = some c ∧ (j = i * 2 ∧ u = .string c.s ∨ j = i * 2 + 1 ∧ u = .int .i64 c.n) := by
  have hj : j < (l.flatMap TI.cells).length := (List.getElem?_eq_some_iff.1 h).1
  have hl : (l.flatMap TI.cells).length = l.length * 2 := by
    clear h hj
    induction l with
    | nil => rfl
    | cons d l ih => rw [List.flatMap_cons, List.length_append, ih]; simp [TI.cells]; omega
  have hi : j / 2 < l.length := by omega
  have hc : l[j / 2]? = some (l[j / 2]'hi) := List.getElem?_eq_getElem hi
  obtain ⟨h1, h2⟩ := flat2 l (j / 2) _ hc
  refine ⟨j / 2, _, hc, ?_⟩
  rcases Nat.mod_two_eq_zero_or_one j with hm | hm
  · left
    have e : j = j / 2 * 2 := by omega
    rw [← e, h] at h1
    exact ⟨e, Option.some.inj h1⟩
  · right
    have e : j = j / 2 * 2 + 1 := by omega
    rw [← e, h] at h2
    exact ⟨e, Option.some.inj h2⟩
theorem tis_of {t e ts ti : TypeId} {cs : List Value} {x : DataW H × List MemPlace} {f0 f1 : Field} (ht : P.underlying t = some (.slice e)) (he : P.underlying e = some (.struct #[f0, f1])) (hc : P.cellsOf e = 2) (hb : P.bytesOf e = 24)
    (hf : f0.type = ts ∧ f0.offset = 0 ∧ f1.type = ti ∧ f1.offset = 1) (hts : P.underlying ts = some .string) (hti : P.underlying ti = some (.int .i64)) (cts : P.cellsOf ts = 1) (cti : P.cellsOf ti = 1)
    (h : DataW.trod enc P w base spare held fuel t cs = some x) (hs : (x.1.weights P t).all (· ≤ reachBytes) = true) : ∃ v l, cs = [v] ∧ TIs w v l := by
  rcases DataW.trod_slice ht h with ⟨rfl, _⟩ | ⟨a, len, cap, elems, rest, n, _, rfl, rfl, hbl, hl, hm, hlen, hel, hsp, hns⟩
  · exact ⟨_, [], rfl, ⟨⟨none, 0, rfl, Nat.le_refl _, by decide, Lies.nil _ _⟩, (fun z hz => by cases hz), (fun z hz => by cases hz), by simp⟩⟩
  · simp only [DataW.weights, ht, List.all_cons, Bool.and_eq_true, decide_eq_true_eq, List.all_append] at hs
    have each : ∀ i, i < len → ∃ c : TI, w.cell? (a.add (i * 2)) = some (.string c.s) ∧ w.cell? (a.add (i * 2 + 1)) = some (.int .i64 c.n) ∧ (Lit.int .i64 c.n).wf = true ∧ c.s.size ≤ 140737488351232 := fun i hi => by
      have h1 := hel i hi
      rw [hc] at h1
      have hei : elems[i]? = some (elems[i]'(by omega)) := List.getElem?_eq_getElem (by omega)
      rw [hei, Option.bind_eq_some_iff] at h1
      obtain ⟨c1, hc1, ht1⟩ := h1
      obtain ⟨hcb, hcl, hat⟩ := World.cells?_some hc1
      obtain ⟨ys, m, _, hx, _, hyl, hg⟩ := DataW.trod_struct he ht1
      have g0 := hg 0 f0 rfl; have g1 := hg 1 f1 rfl
      rw [hf.1, hf.2.1, cts] at g0
      rw [hf.2.2.1, hf.2.2.2, cti] at g1
      match c1, hcl, ys, hyl with
      | [x0, x1], _, [y0, y1], _ =>
        simp at g0 g1
        obtain ⟨s, e0, d0, _⟩ := DataW.trod_string hts g0
        obtain ⟨z, e1, d1, wz⟩ := DataW.trod_int hti g1
        simp at e0 e1
        subst e0 e1
        have a0 := hat 0 (by omega); have a1 := hat 1 (by omega)
        rw [add0] at a0
        rw [add_add] at a1
        refine ⟨⟨s, z⟩, a0, a1, wz, ?_⟩
        have hwt := all_weightsAll hs.2.1 (List.mem_map_of_mem (f := fun y : DataW H × List MemPlace => y.1) (List.getElem_mem (show i < elems.length by omega)))
        rw [hx] at hwt
        simp only [DataW.weights, he, DataW.weightsEach, List.map_cons, List.map_nil, List.all_append, Bool.and_eq_true] at hwt
        rw [d0] at hwt
        simp only [DataW.weights, List.all_cons, List.all_nil, Bool.and_true, decide_eq_true_eq] at hwt
        have h1 := hwt.1
        unfold reachBytes at h1
        simp at h1
        exact h1
    let l : List TI := (List.range len).map fun i => if hi : i < len then (each i hi).choose else ⟨⟨#[]⟩, 0⟩
    have hzl : l.length = len := by simp [l]
    have hzi : ∀ i c, l[i]? = some c → w.cell? (a.add (i * 2)) = some (.string c.s) ∧ w.cell? (a.add (i * 2 + 1)) = some (.int .i64 c.n) ∧ (Lit.int .i64 c.n).wf = true ∧ c.s.size ≤ 140737488351232 := fun i c hz => by
      have hi : i < len := by rw [← hzl]; exact (List.getElem?_eq_some_iff.1 hz).1
      have : c = (each i hi).choose := by
        simp only [l, List.getElem?_map, List.getElem?_range hi, Option.map_some, Option.some.injEq, dif_pos hi] at hz
        exact hz.symm
      rw [this]
      exact (each i hi).choose_spec
    refine ⟨_, l, rfl, ⟨⟨some a, cap, by rw [hzl], by omega, hm, fun j u hj => ?_⟩, fun c hz => ?_, fun c hz => ?_, ?_⟩⟩
    · obtain ⟨i, c, hi, hju⟩ := flat2_in l j u hj
      rcases hju with ⟨rfl, rfl⟩ | ⟨rfl, rfl⟩
      · exact ⟨a, rfl, (hzi i c hi).1⟩
      · exact ⟨a, rfl, (hzi i c hi).2.1⟩
    · obtain ⟨i, hi⟩ := List.getElem?_of_mem hz
      exact (hzi i c hi).2.2.1
    · obtain ⟨i, hi⟩ := List.getElem?_of_mem hz
      exact (hzi i c hi).2.2.2
    · rw [hzl]
      have h1 := hs.1
      simp only [List.length_map] at h1
      rw [hb, hlen] at h1
      unfold reachBytes at h1
      omega
end
end Go.Proofs.YtnngnfajmncjpaaGreatDoor.Args
