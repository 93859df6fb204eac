/- DERIVED. Args, Mem, Upd in one text. By an AI agent. -/
import Derived.ProofKit
import Derived.OpenShut
import Derived.Below
import Derived.SizedLaws
import Derived.WideShapes
import Derived.ChangeSame
import Derived.Laws.OwnMore
import Derived.Deep.Draws
import Derived.Deep.AppendLies
import Derived.OwnWalk
import Derived.RegionTactic
import Derived.Laws.BytesArg
import Derived.RangeFuncBox
/- DERIVED. Of no program: what arguments that are slices of integers, or of structs of a text and an integer, or structs of both, say of the memory, in plain lists; with the bound on their bytes. By an AI agent. -/
namespace Go.Proofs.YtpoepignpdfleaaGreatDoor.Args
open Go Go.ChangeShapes Go.WideShapes Go.ChangeAt Go.RowKit
set_option linter.unusedVariables false
theorem add0 (a : Addr) : a.add 0 = a := by simp [Addr.add]
theorem add_add (a : Addr) (i j : Nat) : (a.add i).add j = a.add (i + j) := by
  unfold Addr.add
  by_cases hi : i = 0 <;> by_cases hj : j = 0 <;> simp [hi, hj, Nat.add_assoc]
/-- Behind an address (of none nothing is wanted) these values lie, one a cell. -/
def Lies (w : World) (A : Option Addr) (xs : List Value) : Prop := ∀ j u, xs[j]? = some u → ∃ a, A = some a ∧ w.cell? (a.add j) = some u
theorem Lies.nil (w : World) (A : Option Addr) : Lies w A [] := fun j u h => by simp at h
theorem Lies.below {w w' : World} {A : Option Addr} {xs : List Value} (h : Lies w A xs) (hb : Below w.heap.size w w') : Lies w' A xs := fun j u hj => by
  obtain ⟨a, ha, hc⟩ := h j u hj
  exact ⟨a, ha, by rw [hb.cell (World.block_lt_of_cell? w _ hc)]; exact hc⟩
theorem Lies.kept {w w' : World} {A : Option Addr} {xs : List Value} (h : Lies w A xs) {B : Nat} (hB : B ≤ w.heap.size) (hb : Below B w w') (hA : ∀ j u a, xs[j]? = some u → A = some a → (a.add j).block < B) : Lies w' A xs := fun j u hj => by
  obtain ⟨a, ha, hc⟩ := h j u hj
  exact ⟨a, ha, by rw [hb.cell (hA j u a hj ha)]; exact hc⟩
theorem Lies.drewN {w : World} {A : Option Addr} {xs : List Value} (h : Lies w A xs) (n : Nat) : Lies (w.drewN n) A xs := h
theorem add_plain (b o j : Nat) : (⟨b, o, none⟩ : Addr).add j = ⟨b, o + j, none⟩ := by unfold Addr.add; split <;> simp_all
/-- Where a value lies, in plain numbers. -/
theorem Lies.at_ {w : World} {A : Option Addr} {xs : List Value} (h : Lies w A xs) {j : Nat} {u : Value} (hj : xs[j]? = some u) : ∃ b o, A = some ⟨b, o, none⟩ ∧ b < w.heap.size ∧ ∀ i v, xs[i]? = some v → w.cell? ⟨b, o + i, none⟩ = some v := by
  have h0 : 0 < xs.length := by have := (List.getElem?_eq_some_iff.1 hj).1; omega
  obtain ⟨a, rfl, hc⟩ := h 0 _ (List.getElem?_eq_getElem h0)
  rw [add0] at hc
  obtain ⟨b, o, sp⟩ := a
  have hsp : sp = none := by simpa using World.cell?_spot hc
  subst hsp
  refine ⟨b, o, rfl, World.block_lt_of_cell? w _ hc, fun i v hi => ?_⟩
  obtain ⟨a', e, hc'⟩ := h i v hi
  obtain rfl := Option.some.inj e
  rw [add_plain] at hc'
  exact hc'
/-- A slice of integers of b bytes each. -/
structure Ints (k : IntKind) (b : Nat) (w : World) (v : Value) (zs : List Int) : Prop where
  ex : ∃ A cap, v = .slice A zs.length cap ∧ zs.length ≤ cap ∧ cap ≤ maxLen ∧ Lies w A (zs.map (.int k))
  wf : ∀ z ∈ zs, (Lit.int k z).wf = true
  reach : zs.length * b ≤ 140737488351232
/-- A text and an integer: two cells. -/
structure TI where
  s : ByteArray
  n : Int
def TI.cells (c : TI) : List Value := [.string c.s, .int .i64 c.n]
structure TIs (w : World) (v : Value) (l : List TI) : Prop where
  ex : ∃ A cap, v = .slice A l.length cap ∧ l.length ≤ cap ∧ cap ≤ maxLen ∧ Lies w A (l.flatMap TI.cells)
  wf : ∀ c ∈ l, (Lit.int .i64 c.n).wf = true
  size : ∀ c ∈ l, c.s.size ≤ 140737488351232
  reach : l.length * 24 ≤ 140737488351232
section
variable {H : Type} {enc : TypeId × Value → H} {P : Program} {w : World} {base : Nat} {spare : Nat → Bool} {held : Bool} {fuel : Nat}
theorem all_weights {t : TypeId} {ts : List TypeId} {d : DataW H} {ds : List (DataW H)} (h : (DataW.weightsEach P (t :: ts) (d :: ds)).all (· ≤ reachBytes) = true) :
    (d.weights P t).all (· ≤ reachBytes) = true ∧ (DataW.weightsEach P ts ds).all (· ≤ reachBytes) = true := by
  simp only [DataW.weightsEach, List.all_append, Bool.and_eq_true] at h
  exact h
theorem all_weightsAll {e : TypeId} : ∀ {ds : List (DataW H)} {d : DataW H}, (DataW.weightsAll P e ds).all (· ≤ reachBytes) = true → d ∈ ds → (d.weights P e).all (· ≤ reachBytes) = true
  | [], _, _, hd => by cases hd
  | x :: r, d, h, hd => by
    simp only [DataW.weightsAll, List.all_append, Bool.and_eq_true] at h
    rcases List.mem_cons.1 hd with rfl | hd
    · exact h.1
    · exact all_weightsAll h.2 hd
theorem ints_of {t e : TypeId} {k : IntKind} {b : Nat} {cs : List Value} {x : DataW H × List MemPlace} (ht : P.underlying t = some (.slice e)) (he : P.underlying e = some (.int k)) (hc : P.cellsOf e = 1) (hb : P.bytesOf e = b)
    (h : DataW.trod enc P w base spare held fuel t cs = some x) (hs : (x.1.weights P t).all (· ≤ reachBytes) = true) : ∃ v zs, cs = [v] ∧ Ints k b w v zs := by
  rcases DataW.trod_slice ht h with ⟨rfl, _⟩ | ⟨a, len, cap, elems, rest, n, _, rfl, rfl, hbl, hl, hm, hlen, hel, hsp, hns⟩
  · exact ⟨_, [], rfl, ⟨⟨none, 0, rfl, Nat.le_refl _, by decide, Lies.nil _ _⟩, (fun z hz => by cases hz), by simp⟩⟩
  · simp only [DataW.weights, ht, List.all_cons, Bool.and_eq_true, decide_eq_true_eq] at hs
    have each : ∀ i, i < len → ∃ z : Int, w.cell? (a.add i) = some (.int k z) ∧ (Lit.int k z).wf = true := fun i hi => by
      have h1 := hel i hi
      rw [hc, Nat.mul_one] at h1
      have hei : elems[i]? = some (elems[i]'(by omega)) := List.getElem?_eq_getElem (by omega)
      rw [hei, Option.bind_eq_some_iff] at h1
      obtain ⟨c1, hc1, ht1⟩ := h1
      obtain ⟨z, rfl, _, hw⟩ := DataW.trod_int he ht1
      have h2 := (World.cells?_some hc1).2.2 0 (by omega)
      rw [add0] at h2
      exact ⟨z, h2, hw⟩
    let zs : List Int := (List.range len).map fun i => if hi : i < len then (each i hi).choose else 0
    have hzl : zs.length = len := by simp [zs]
    have hzi : ∀ i z, zs[i]? = some z → w.cell? (a.add i) = some (.int k z) ∧ (Lit.int k z).wf = true := fun i z hz => by
      have hi : i < len := by rw [← hzl]; exact (List.getElem?_eq_some_iff.1 hz).1
      have : z = (each i hi).choose := by
        simp only [zs, List.getElem?_map, List.getElem?_range hi, Option.map_some, Option.some.injEq, dif_pos hi] at hz
        exact hz.symm
      rw [this]
      exact (each i hi).choose_spec
    refine ⟨_, zs, rfl, ⟨⟨some a, cap, by rw [hzl], by omega, hm, fun j u hj => ?_⟩, fun z hz => ?_, ?_⟩⟩
    · rw [List.getElem?_map, Option.map_eq_some_iff] at hj
      obtain ⟨z, hz, rfl⟩ := hj
      exact ⟨a, rfl, (hzi j z hz).1⟩
    · obtain ⟨i, hi⟩ := List.getElem?_of_mem hz
      exact (hzi i z hi).2
    · rw [hzl]
      have h1 := hs.1
      simp only [List.length_map] at h1
      rw [hb, hlen] at h1
      unfold reachBytes at h1
      have : len * b ≤ (len + rest.length) * b := Nat.mul_le_mul_right b (by omega)
      omega
theorem flat2 (l : List TI) (i : Nat) (c : TI) (h : l[i]? = some c) : (l.flatMap TI.cells)[i * 2]? = some (.string c.s) ∧ (l.flatMap TI.cells)[i * 2 + 1]? = some (.int .i64 c.n) := by
  induction l generalizing i with
  | nil => simp at h
  | cons d l ih =>
    cases i with
    | zero => simp at h; subst h; exact ⟨rfl, rfl⟩
    | succ i =>
      simp at h
      obtain ⟨h1, h2⟩ := ih i h
      rw [List.flatMap_cons, show (i + 1) * 2 = i * 2 + 1 + 1 by omega]
      simp only [TI.cells, List.cons_append, List.nil_append, List.getElem?_cons_succ]
      exact ⟨h1, h2⟩
theorem flat2_in (l : List TI) (j : Nat) (u : Value) (h : (l.flatMap TI.cells)[j]? = some u) : ∃ i c, l[i]? = some c ∧ (j = i * 2 ∧ u = .string c.s ∨ j = i * 2 + 1 ∧ u = .int .i64 c.n) := by
  have hj : j < (l.flatMap TI.cells).length := (List.getElem?_eq_some_iff.1 h).1
  have hl : (l.flatMap TI.cells).length = l.length * 2 := by
    clear h hj
    induction l with
    | nil => rfl
    | cons d l ih => rw [List.flatMap_cons, List.length_append, ih]; simp [TI.cells]; omega
  have hi : j / 2 < l.length := by omega
  have hc : l[j / 2]? = some (l[j / 2]'hi) := List.getElem?_eq_getElem hi
  obtain ⟨h1, h2⟩ := flat2 l (j / 2) _ hc
  refine ⟨j / 2, _, hc, ?_⟩
  rcases Nat.mod_two_eq_zero_or_one j with hm | hm
  · left
    have e : j = j / 2 * 2 := by omega
    rw [← e, h] at h1
    exact ⟨e, Option.some.inj h1⟩
  · right
    have e : j = j / 2 * 2 + 1 := by omega
    rw [← e, h] at h2
    exact ⟨e, Option.some.inj h2⟩
theorem tis_of {t e ts ti : TypeId} {cs : List Value} {x : DataW H × List MemPlace} {f0 f1 : Field} (ht : P.underlying t = some (.slice e)) (he : P.underlying e = some (.struct #[f0, f1])) (hc : P.cellsOf e = 2) (hb : P.bytesOf e = 24)
    (hf : f0.type = ts ∧ f0.offset = 0 ∧ f1.type = ti ∧ f1.offset = 1) (hts : P.underlying ts = some .string) (hti : P.underlying ti = some (.int .i64)) (cts : P.cellsOf ts = 1) (cti : P.cellsOf ti = 1)
    (h : DataW.trod enc P w base spare held fuel t cs = some x) (hs : (x.1.weights P t).all (· ≤ reachBytes) = true) : ∃ v l, cs = [v] ∧ TIs w v l := by
  rcases DataW.trod_slice ht h with ⟨rfl, _⟩ | ⟨a, len, cap, elems, rest, n, _, rfl, rfl, hbl, hl, hm, hlen, hel, hsp, hns⟩
  · exact ⟨_, [], rfl, ⟨⟨none, 0, rfl, Nat.le_refl _, by decide, Lies.nil _ _⟩, (fun z hz => by cases hz), (fun z hz => by cases hz), by simp⟩⟩
  · simp only [DataW.weights, ht, List.all_cons, Bool.and_eq_true, decide_eq_true_eq, List.all_append] at hs
    have each : ∀ i, i < len → ∃ c : TI, w.cell? (a.add (i * 2)) = some (.string c.s) ∧ w.cell? (a.add (i * 2 + 1)) = some (.int .i64 c.n) ∧ (Lit.int .i64 c.n).wf = true ∧ c.s.size ≤ 140737488351232 := fun i hi => by
      have h1 := hel i hi
      rw [hc] at h1
      have hei : elems[i]? = some (elems[i]'(by omega)) := List.getElem?_eq_getElem (by omega)
      rw [hei, Option.bind_eq_some_iff] at h1
      obtain ⟨c1, hc1, ht1⟩ := h1
      obtain ⟨hcb, hcl, hat⟩ := World.cells?_some hc1
      obtain ⟨ys, m, _, hx, _, hyl, hg⟩ := DataW.trod_struct he ht1
      have g0 := hg 0 f0 rfl; have g1 := hg 1 f1 rfl
      rw [hf.1, hf.2.1, cts] at g0
      rw [hf.2.2.1, hf.2.2.2, cti] at g1
      match c1, hcl, ys, hyl with
      | [x0, x1], _, [y0, y1], _ =>
        simp at g0 g1
        obtain ⟨s, e0, d0, _⟩ := DataW.trod_string hts g0
        obtain ⟨z, e1, d1, wz⟩ := DataW.trod_int hti g1
        simp at e0 e1
        subst e0 e1
        have a0 := hat 0 (by omega); have a1 := hat 1 (by omega)
        rw [add0] at a0
        rw [add_add] at a1
        refine ⟨⟨s, z⟩, a0, a1, wz, ?_⟩
        have hwt := all_weightsAll hs.2.1 (List.mem_map_of_mem (f := fun y : DataW H × List MemPlace => y.1) (List.getElem_mem (show i < elems.length by omega)))
        rw [hx] at hwt
        simp only [DataW.weights, he, DataW.weightsEach, List.map_cons, List.map_nil, List.all_append, Bool.and_eq_true] at hwt
        rw [d0] at hwt
        simp only [DataW.weights, List.all_cons, List.all_nil, Bool.and_true, decide_eq_true_eq] at hwt
        have h1 := hwt.1
        unfold reachBytes at h1
        simp at h1
        exact h1
    let l : List TI := (List.range len).map fun i => if hi : i < len then (each i hi).choose else ⟨⟨#[]⟩, 0⟩
    have hzl : l.length = len := by simp [l]
    have hzi : ∀ i c, l[i]? = some c → w.cell? (a.add (i * 2)) = some (.string c.s) ∧ w.cell? (a.add (i * 2 + 1)) = some (.int .i64 c.n) ∧ (Lit.int .i64 c.n).wf = true ∧ c.s.size ≤ 140737488351232 := fun i c hz => by
      have hi : i < len := by rw [← hzl]; exact (List.getElem?_eq_some_iff.1 hz).1
      have : c = (each i hi).choose := by
        simp only [l, List.getElem?_map, List.getElem?_range hi, Option.map_some, Option.some.injEq, dif_pos hi] at hz
        exact hz.symm
      rw [this]
      exact (each i hi).choose_spec
    refine ⟨_, l, rfl, ⟨⟨some a, cap, by rw [hzl], by omega, hm, fun j u hj => ?_⟩, fun c hz => ?_, fun c hz => ?_, ?_⟩⟩
    · obtain ⟨i, c, hi, hju⟩ := flat2_in l j u hj
      rcases hju with ⟨rfl, rfl⟩ | ⟨rfl, rfl⟩
      · exact ⟨a, rfl, (hzi i c hi).1⟩
      · exact ⟨a, rfl, (hzi i c hi).2.1⟩
    · obtain ⟨i, hi⟩ := List.getElem?_of_mem hz
      exact (hzi i c hi).2.2.1
    · obtain ⟨i, hi⟩ := List.getElem?_of_mem hz
      exact (hzi i c hi).2.2.2
    · rw [hzl]
      have h1 := hs.1
      simp only [List.length_map] at h1
      rw [hb, hlen] at h1
      unfold reachBytes at h1
      omega
end
end Go.Proofs.YtpoepignpdfleaaGreatDoor.Args
/- DERIVED. Of no program: a fresh copy of a slice ('append([]T{}, xs...)'), in a plain region and at a step of a region that draws; bytes as a text; closed forms. By an AI agent. -/
namespace Go.Proofs.YtpoepignpdfleaaGreatDoor.Args
open Go Go.ChangeShapes Go.WideShapes Go.ChangeAt Go.RowKit
set_option linter.unusedVariables false
/-- A slice value of n elements whose cells are these. -/
def Sl (w : World) (v : Value) (n : Nat) (xs : List Value) : Prop := ∃ A c, v = .slice A n c ∧ n ≤ c ∧ c ≤ maxLen ∧ Lies w A xs
theorem Sl.below {w w' : World} {v : Value} {n : Nat} {xs : List Value} (h : Sl w v n xs) (hb : Below w.heap.size w w') : Sl w' v n xs := by
  obtain ⟨A, c, e, h1, h2, h3⟩ := h
  exact ⟨A, c, e, h1, h2, h3.below hb⟩
theorem Sl.drew {w : World} {v : Value} {n : Nat} {xs : List Value} (h : Sl w v n xs) : Sl w.drew v n xs := h
theorem lies_own {w : World} {base : Nat} {e : TypeId} {size n c : Nat} {A : Option Addr} {xs : List Value} (h : w.ownsRow base e size (.slice A n c) n xs) : Lies w A xs := by
  rcases h.2 with ⟨e1, rfl⟩ | ⟨g, cap, cur, e1, _⟩
  · have : xs = [] := List.eq_nil_of_length_eq_zero (by simpa using h.1)
    subst this
    exact Lies.nil _ _
  · injection e1 with e1 e2 e3
    subst e1
    exact fun j u hj => ⟨_, rfl, h.cells (g := g) rfl j u hj⟩
theorem sl_own {w : World} {base : Nat} {e : TypeId} {size n : Nat} {v : Value} {xs : List Value} (h : w.ownsRow base e size v n xs) : Sl w v n xs := by
  rcases h.2 with ⟨rfl, rfl⟩ | ⟨g, cap, cur, rfl, _, _, h1, h2, _⟩
  · exact ⟨none, 0, rfl, Nat.le_refl _, by decide, lies_own h⟩
  · exact ⟨_, cap, rfl, h1, h2, lies_own h⟩
section
variable {P : Program} {w : World}
theorem run_fresh (base : Nat) (t ty e : TypeId) (i : TypeInfo) (z : Value) (size bytes : Nat) (ht : P.underlying t = some (.slice e)) (hi : P.info? e = some i) (hz : i.zero = some z)
    (hsize : i.size = size) (hby : i.bytes = bytes) (hzs : z.cells.size = size) (hsz : 0 < size) (v : Value) (n : Nat) (xs : List Value) (hown : w.ownsRow base e size v n xs)
    (A : Option Addr) (m c : Nat) (news : List Value) (hl : news.length = m * size) (hL : Lies w A news) (h1 : ∀ u ∈ news, u.oneCell' = true) (h63 : n + m ≤ maxLen) (hbytes : (n + m) * bytes ≤ 140737488355328) (hbase : base ≤ w.heap.size) :
    ∃ v' w', (Builtin.append_ #[t, t] ty #[v, .slice A m c]).run P w = .ok v' w' ∧ w'.ownsRow base e size v' (n + m) (xs ++ news) ∧ w.grownBy w' v.ownBlock := by
  rcases A with _ | ad
  · have hm : news = [] := by
      cases news with
      | nil => rfl
      | cons u r => obtain ⟨a, h, _⟩ := hL 0 u rfl; cases h
    subst hm
    have hm : m = 0 := by
      rcases Nat.eq_zero_or_pos m with h | h
      · exact h
      · have := Nat.mul_pos h hsz; simp at hl; omega
    subst hm
    have hr : (Builtin.append_ #[t, t] ty #[v, .slice none 0 c]).run P w = .ok v w := by
      rcases hown.2 with ⟨rfl, rfl⟩ | ⟨g, cap, cur, rfl, _, _, hnc, _⟩
      · simp [Builtin.append_, run_underlying ht, sizeOf, typeInfo, hi, Builtin.lenOf, Builtin.firstCells]
      · simp [Builtin.append_, run_underlying ht, sizeOf, typeInfo, hi, Builtin.lenOf, Builtin.firstCells, hnc, storeCells]
    exact ⟨v, w, hr, by simpa using hown, World.grownBy.refl w _⟩
  · obtain ⟨v', w', hr, h2, h3, _⟩ := run_append_own (P := P) w base t ty e i z size bytes ht hi hz hsize hby hzs hsz v n xs hown ad m c news hl (fun j u hj => by
      obtain ⟨a, ha, hc⟩ := hL j u hj
      cases ha; exact hc) h1 h63 hbytes hbase
    exact ⟨v', w', hr, h2, h3⟩
theorem wp_fresh {o : Oper} {a : Act} {K : Act → World → Prop} {Q : Exit → Act → World → Prop} (s x : Operand) (t : TypeId)
    (ho : o.op = .call { callee := .builtin .append, args := #[s, x], argTypes := #[t, t] })
    (base : Nat) (e : TypeId) (i : TypeInfo) (z : Value) (size bytes : Nat) (ht : P.underlying t = some (.slice e)) (hi : P.info? e = some i) (hz : i.zero = some z)
    (hsize : i.size = size) (hby : i.bytes = bytes) (hzs : z.cells.size = size) (hsz : 0 < size) (v : Value) (n : Nat) (xs : List Value) (hs : a.eval s = v) (hown : w.ownsRow base e size v n xs)
    (A : Option Addr) (m c : Nat) (news : List Value) (hx : a.eval x = .slice A m c) (hl : news.length = m * size) (hL : Lies w A news) (h1 : ∀ u ∈ news, u.oneCell' = true) (h63 : n + m ≤ maxLen) (hbytes : (n + m) * bytes ≤ 140737488355328) (hbase : base ≤ w.heap.size)
    (h : ∀ A' c' w', n + m ≤ c' → c' ≤ maxLen → w'.ownsRow base e size (.slice A' (n + m) c') (n + m) (xs ++ news) → w.grownBy w' v.ownBlock → K (a.put o.dst (.slice A' (n + m) c')) w') : o.wp P a w K Q := by
  obtain ⟨v', w', hrun, h2, h3⟩ := run_fresh (P := P) base t o.type e i z size bytes ht hi hz hsize hby hzs hsz v n xs hown A m c news hl hL h1 h63 hbytes hbase
  unfold Oper.wp execOp
  simp only [ho, resolve, invoke, builtin, Sem.run_bind, Sem.run_pure, Result.andThen_ok, List.map_toArray, List.map_cons, List.map_nil, hs, hx, hrun]
  obtain ⟨A', c', rfl, h4, h5, _⟩ := sl_own h2
  exact h A' c' w' h4 h5 h2 h3
theorem wpList_fresh {ops : Array Oper} {rest : List Oper} {o : Oper} {a : Act} {Q : Exit → Act → World → Prop} (hgd : o.guard = none) (s x : Operand) (t : TypeId)
    (ho : o.op = .call { callee := .builtin .append, args := #[s, x], argTypes := #[t, t] })
    (base : Nat) (e : TypeId) (i : TypeInfo) (z : Value) (size bytes : Nat) (ht : P.underlying t = some (.slice e)) (hi : P.info? e = some i) (hz : i.zero = some z)
    (hsize : i.size = size) (hby : i.bytes = bytes) (hzs : z.cells.size = size) (hsz : 0 < size) (v : Value) (n : Nat) (xs : List Value) (hs : a.eval s = v) (hown : w.ownsRow base e size v n xs)
    (A : Option Addr) (m c : Nat) (news : List Value) (hx : a.eval x = .slice A m c) (hl : news.length = m * size) (hL : Lies w A news) (h1 : ∀ u ∈ news, u.oneCell' = true) (h63 : n + m ≤ maxLen) (hbytes : (n + m) * bytes ≤ 140737488355328) (hbase : base ≤ w.heap.size)
    (h : ∀ A' c' w', n + m ≤ c' → c' ≤ maxLen → w'.ownsRow base e size (.slice A' (n + m) c') (n + m) (xs ++ news) → w.grownBy w' v.ownBlock → wpList P ops Q rest (a.put o.dst (.slice A' (n + m) c')) w') : wpList P ops Q (o :: rest) a w :=
  wpList_plain hgd fun _ hK => wp_fresh s x t ho base e i z size bytes ht hi hz hsize hby hzs hsz v n xs hs hown A m c news hx hl hL h1 h63 hbytes hbase fun A' c' w' h2 h3 h4 h5 => hK _ _ (h A' c' w' h2 h3 h4 h5)
theorem step_fresh {ops : Array Oper} {o : Oper} {a : Act} {K : Act → World → Prop} {Q : Exit → Act → World → Prop} {E : Prop} (hgd : o.guard = none) (s x : Operand) (t : TypeId)
    (ho : o.op = .call { callee := .builtin .append, args := #[s, x], argTypes := #[t, t] })
    (base : Nat) (e : TypeId) (i : TypeInfo) (z : Value) (size bytes : Nat) (ht : P.underlying t = some (.slice e)) (hi : P.info? e = some i) (hz : i.zero = some z)
    (hsize : i.size = size) (hby : i.bytes = bytes) (hzs : z.cells.size = size) (hsz : 0 < size) (v : Value) (n : Nat) (xs : List Value) (hs : a.eval s = v) (hown : w.ownsRow base e size v n xs)
    (A : Option Addr) (m c : Nat) (news : List Value) (hx : a.eval x = .slice A m c) (hl : news.length = m * size) (hL : Lies w A news) (h1 : ∀ u ∈ news, u.oneCell' = true) (h63 : n + m ≤ maxLen) (hbytes : (n + m) * bytes ≤ 140737488355328) (hbase : base ≤ w.heap.size)
    (h : ∀ A' c' w', n + m ≤ c' → c' ≤ maxLen → w'.ownsRow base e size (.slice A' (n + m) c') (n + m) (xs ++ news) → w.grownBy w' v.ownBlock → K (a.put o.dst (.slice A' (n + m) c')) w') :
    if Region.wanted o (yielded ops a.tmps) = true then Oper.wp P o a w K Q else E := by
  have hw : Region.wanted o (yielded ops a.tmps) = true := by simp [Region.wanted, hgd]
  rw [if_pos hw]
  exact wp_fresh s x t ho base e i z size bytes ht hi hz hsize hby hzs hsz v n xs hs hown A m c news hx hl hL h1 h63 hbytes hbase h
/-- The empty slice literal, behind its make. -/
theorem own_empty (w : World) {base : Nat} (hb : base ≤ w.heap.size) (e : TypeId) (size : Nat) : (w.alloc (.cells #[] e)).ownsRow base e size (.slice (some ⟨w.heap.size, 0, none⟩) 0 0) 0 [] :=
  World.ownsRow_made w #[] 0 hb (by decide) (by simp)
theorem grown_new {w0 w w' : World} {o : Obj} (hb : Below w0.heap.size w0 w) (hg : (w.alloc o).grownBy w' (some w.heap.size)) : Below w0.heap.size w0 w' :=
  (hb.alloc hb.size o).grown hg (by simp; have := hb.size; omega) (fun k e => by cases e; exact hb.size)
/-- Bytes as a text. -/
theorem run_string_of (src e : TypeId) (hs : P.underlying src = some (.slice e)) (he : P.underlying e = some (.int .u8)) (A : Option Addr) (n c : Nat) (xs : List Int) (hn : xs.length = n) (hL : Lies w A (xs.map (.int .u8))) :
    ∀ dst, P.underlying dst = some .string → (convert src dst (.slice A n c)).run P w = .ok (.string (strOfNums xs)) w := by
  cases xs with
  | nil =>
    simp at hn; subst hn
    cases A with
    | none => exact run_convert_bytes_nil w src e hs he 0 c
    | some a =>
      intro dst hd
      have hl : (loadCells a 0).run P w = .ok #[] w := by
        have := run_loadCells_list (P := P) w a [] (fun j v hj => by simp at hj)
        simpa using this
      rw [run_convert_bytes_string w src dst e _ 0 c hs he hd, run_bytesToString w a 0 c [] (by simpa using hl)]
      rfl
  | cons x r =>
    obtain ⟨b, o, rfl, _, hc⟩ := hL.at_ (j := 0) (u := .int .u8 x) rfl
    exact run_convert_bytes_arg w src e hs he b o n c (x :: r) hn fun i hi => hc i _ (by
      rw [List.getElem?_map, List.getElem?_eq_getElem (by omega)]
      simp [List.getD, List.getElem?_eq_getElem (show i < (x :: r).length by omega)])
end
theorem str_eq_iff (xs ys : List Int) (hx : ∀ z ∈ xs, 0 ≤ z ∧ z < 256) (hy : ∀ z ∈ ys, 0 ≤ z ∧ z < 256) (h : (strOfNums xs).toList = (strOfNums ys).toList) : xs = ys := by
  have h1 : xs.map (fun n => UInt8.ofNat n.toNat) = ys.map (fun n => UInt8.ofNat n.toNat) := by
    simpa [strOfNums, ByteArray.toList_eq] using h
  clear h
  induction xs generalizing ys with
  | nil => cases ys with
    | nil => rfl
    | cons y s => simp at h1
  | cons x r ih => cases ys with
    | nil => simp at h1
    | cons y s =>
      simp only [List.map_cons, List.cons.injEq] at h1
      obtain ⟨a, b⟩ := hx x List.mem_cons_self
      obtain ⟨c, d⟩ := hy y List.mem_cons_self
      have e := congrArg UInt8.toNat h1.1
      simp at e
      rw [ih s (fun z hz => hx z (List.mem_cons_of_mem _ hz)) (fun z hz => hy z (List.mem_cons_of_mem _ hz)) h1.2]
      congr 1
      omega
end Go.Proofs.YtpoepignpdfleaaGreatDoor.Args
/- DERIVED. Of no program: a world in which only some blocks that lay have turned. By an AI agent. -/
namespace Go.Proofs.YtpoepignpdfleaaGreatDoor.Args
open Go Go.ChangeShapes Go.WideShapes Go.ChangeAt Go.RowKit
set_option linter.unusedVariables false
/-- New blocks; of those that lay, the ones of X alone may have turned. -/
structure Upd (X : Nat → Prop) (w w' : World) : Prop where
  os : w'.os = w.os
  tape : w'.tape = w.tape
  output : w'.output = w.output
  size : w.heap.size ≤ w'.heap.size
  block : ∀ k, k < w.heap.size → ¬ X k → w'.heap[k]? = w.heap[k]?
section
variable {X Y : Nat → Prop} {w w1 w' : World}
theorem Upd.refl (X : Nat → Prop) (w : World) : Upd X w w := ⟨rfl, rfl, rfl, Nat.le_refl _, fun _ _ _ => rfl⟩
theorem Upd.trans (h : Upd X w w1) (k : Upd X w1 w') : Upd X w w' :=
  ⟨k.os.trans h.os, k.tape.trans h.tape, k.output.trans h.output, Nat.le_trans h.size k.size, fun i hi hx => (k.block i (Nat.lt_of_lt_of_le hi h.size) hx).trans (h.block i hi hx)⟩
theorem Upd.mono (h : Upd X w w') (hXY : ∀ k, X k → Y k) : Upd Y w w' := ⟨h.os, h.tape, h.output, h.size, fun i hi hx => h.block i hi fun hq => hx (hXY i hq)⟩
/-- What was made since may have turned too. -/
theorem Upd.fresh (h : Upd X w w') (hX : ∀ k, X k → k < w.heap.size → Y k) : Upd Y w w' := ⟨h.os, h.tape, h.output, h.size, fun i hi hx => h.block i hi fun hq => hx (hX i hq hi)⟩
theorem Upd.drew (h : Upd X w w') : Upd X w w'.drew := ⟨h.os, h.tape, h.output, h.size, h.block⟩
theorem Upd.drewN (h : Upd X w w') (n : Nat) : Upd X w (w'.drewN n) := ⟨h.os, h.tape, h.output, h.size, h.block⟩
theorem Upd.alloc (h : Upd X w w') (o : Obj) : Upd X w (w'.alloc o) :=
  ⟨h.os, h.tape, h.output, by simp; exact Nat.le_succ_of_le h.size, fun i hi hx => (Below.heap_alloc w' o i (Nat.lt_of_lt_of_le hi h.size)).trans (h.block i hi hx)⟩
theorem Upd.setCell (h : Upd X w w') {p : Addr} (hp : p.block < w.heap.size → X p.block) (u : Value) : Upd X w (w'.setCell p u) :=
  ⟨h.os, h.tape, h.output, by have := (Below.setCell (p := p) (Below.refl 0 w') (Nat.zero_le _) u).size; exact Nat.le_trans h.size this, fun i hi hx => (Below.heap_setCell w' p u i (fun e => hx (by subst e; exact hp hi))).trans (h.block i hi hx)⟩
theorem Upd.of_below (h : Below w.heap.size w w') (X : Nat → Prop) : Upd X w w' := ⟨h.os, h.tape, h.output, h.size, fun i hi _ => h.block i hi⟩
theorem Upd.below (h : Upd X w w') {B : Nat} (hB : B ≤ w.heap.size) (hX : ∀ k, X k → B ≤ k) : Below B w w' :=
  ⟨h.os, h.tape, h.output, h.size, fun i hi => h.block i (Nat.lt_of_lt_of_le hi hB) fun hx => by have := hX i hx; omega⟩
theorem Upd.grown (h : Upd X w w1) {row : Option Nat} (hg : w1.grownBy w' row) (hr : ∀ k, row = some k → k < w.heap.size → X k) : Upd X w w' :=
  ⟨hg.os.trans h.os, hg.tape.trans h.tape, hg.output.trans h.output, Nat.le_trans h.size hg.size, fun i hi hx => (hg.block i (Nat.lt_of_lt_of_le hi h.size) fun e => hx (hr i e.symm hi)).trans (h.block i hi hx)⟩
theorem Upd.cell (h : Upd X w w') {p : Addr} (hp : p.block < w.heap.size) (hx : ¬ X p.block) : w'.cell? p = w.cell? p := World.cell?_of_block (h.block _ hp hx)
theorem Upd.lies (h : Upd X w w') {A : Option Addr} {xs : List Value} (hL : Lies w A xs) (hA : ∀ b o, A = some ⟨b, o, none⟩ → 0 < xs.length → ¬ X b) : Lies w' A xs := fun j u hj => by
  obtain ⟨b, o, rfl, hb, hc⟩ := hL.at_ hj
  refine ⟨_, rfl, ?_⟩
  rw [Args.add_plain]
  exact (h.cell (p := ⟨b, o + j, none⟩) hb (hA b o rfl (by have := (List.getElem?_eq_some_iff.1 hj).1; omega))).trans (hc j u hj)
end
/-- A block of cells, whole. -/
def Blk (w : World) (g : Nat) (t : TypeId) (cs : Array Value) : Prop := w.heap[g]? = some (.cells cs t (0, 0))
section
variable {X : Nat → Prop} {w w' : World} {g : Nat} {t : TypeId} {cs : Array Value}
theorem Blk.lt (h : Blk w g t cs) : g < w.heap.size := (Array.getElem?_eq_some_iff.1 h).1
theorem Blk.cell (h : Blk w g t cs) (i : Nat) : w.cell? ⟨g, i, none⟩ = cs[i]? := cell_of_row w g i cs t (0, 0) h
theorem Blk.frozen (h : Blk w g t cs) (i : Nat) : w.frozen? ⟨g, i, none⟩ = false := by
  unfold Blk at h
  simp [World.frozen?, h]
theorem Blk.new (w : World) (t : TypeId) (cs : Array Value) : Blk (w.alloc (.cells cs t)) w.heap.size t cs := heap_alloc_new w _
theorem Blk.set (h : Blk w g t cs) (i : Nat) (u : Value) : Blk (w.setCell ⟨g, i, none⟩ u) g t (cs.setIfInBounds i u) := by
  unfold Blk at h ⊢
  simp [World.setCell, Array.getElem?_modify, h]
theorem Blk.far (h : Blk w g t cs) {p : Addr} (hp : g ≠ p.block) (u : Value) : Blk (w.setCell p u) g t cs := (Below.heap_setCell w p u g hp).trans h
theorem Blk.drew (h : Blk w g t cs) : Blk w.drew g t cs := h
theorem Blk.alloc (h : Blk w g t cs) (o : Obj) : Blk (w.alloc o) g t cs := (Below.heap_alloc w o g h.lt).trans h
theorem Blk.upd (h : Blk w g t cs) (hu : Upd X w w') (hx : ¬ X g) : Blk w' g t cs := (hu.block g h.lt hx).trans h
theorem Blk.below {B : Nat} (h : Blk w g t cs) (hb : Below B w w') (hg : g < B) : Blk w' g t cs := (hb.block g hg).trans h
end
end Go.Proofs.YtpoepignpdfleaaGreatDoor.Args
