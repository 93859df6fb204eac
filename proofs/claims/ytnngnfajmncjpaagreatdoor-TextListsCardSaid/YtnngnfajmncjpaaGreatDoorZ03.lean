/- DERIVED. Tabs in one text. By an AI agent. -/
import Derived.LaidMore
import Derived.OpenShut
import Derived.MakeChecks
/- DERIVED. Of no program: what a listed variable's datum says of the memory's cells, one by one, by one closed test ('lay'). By an AI agent. -/
namespace Go.Proofs.YtnngnfajmncjpaaGreatDoor.Tabs
open Go
/-- What one cell holds: a plain value, or a slice without spare over cells that hold plain values. -/
inductive Cl where
  | v (x : Value)
  | row (xs : List Value)
def Cl.fits (w : World) : Cl → Value → Prop
  | .v x, c => c = x
  | .row xs, c => ∃ a cap, c = .slice (some a) xs.length cap ∧ xs.length ≤ cap ∧ ∀ j x, xs[j]? = some x → w.cell? (a.add j) = some x
def Fits (w : World) : List Cl → List Value → Prop
  | [], [] => True
  | c :: l, x :: cs => c.fits w x ∧ Fits w l cs
  | _, _ => False
theorem Fits.append {w : World} : ∀ {l1 l2 : List Cl} {c1 c2 : List Value}, Fits w l1 c1 → Fits w l2 c2 → Fits w (l1 ++ l2) (c1 ++ c2)
  | [], _, [], _, _, h => h
  | _ :: _, _, _ :: _, _, h1, h2 => ⟨h1.1, Fits.append h1.2 h2⟩
theorem Fits.get {w : World} : ∀ {l : List Cl} {cs : List Value}, Fits w l cs → ∀ (i : Nat) (c : Cl), l[i]? = some c → ∃ x, cs[i]? = some x ∧ c.fits w x
  | [], _, _, i, c, h => by simp at h
  | d :: l, x :: cs, hf, 0, c, h => by simp at h; subst h; exact ⟨x, rfl, hf.1⟩
  | d :: l, x :: cs, hf, i + 1, c, h => by
    simp at h
    obtain ⟨y, hy, hc⟩ := Fits.get hf.2 i c h
    exact ⟨y, by simpa using hy, hc⟩
theorem fits_chunks {w : World} : ∀ (ls : List (List Cl)) (cs : List Value), cs.length = ls.flatten.length →
    (∀ i l, ls[i]? = some l → Fits w l ((cs.drop ((ls.take i).flatten.length)).take l.length)) → Fits w ls.flatten cs
  | [], cs, hl, _ => by
    have : cs = [] := by simpa using hl
    subst this; exact trivial
  | l :: ls, cs, hl, h => by
    have h0 := h 0 l rfl
    simp at h0
    have hr := fits_chunks ls (cs.drop l.length) (by simp at hl ⊢; omega) (fun i m hm => by
      have := h (i + 1) m (by simpa using hm)
      simpa [Nat.add_comm] using this)
    have := Fits.append h0 hr
    rw [List.take_append_drop] at this
    simpa using this
def plain : List Cl → Option Value
  | [.v x] => some x
  | _ => none
def lay (P : Program) : Nat → TypeId → DataW Unit → Option (List Cl)
  | 0, _, _ => none
  | n + 1, t, d =>
    match P.underlying t, d with
    | some .bool, .lit (.bool b) => some [.v (.bool b)]
    | some (.int _), .lit (.int k n) => some [.v (.int k n)]
    | some .string, .lit (.string s) => some [.v (.string ⟨s.toArray⟩)]
    | some (.array _ e), .agg ds =>
      (ds.mapM (lay P n e)).bind fun ls =>
        if P.cellsOf t == ls.flatten.length && (List.range ls.length).all (fun i => (ls.take i).flatten.length == i * P.cellsOf e && (ls.getD i []).length == P.cellsOf e) then some ls.flatten else none
    | some (.struct fs), .agg ds =>
      ((fs.toList.zip ds).mapM fun x => lay P n x.1.type x.2).bind fun ls =>
        if P.cellsOf t == ls.flatten.length && fs.size == ls.length && ds.length == ls.length && (List.range ls.length).all (fun i => (fs[i]?).any fun f => (ls.take i).flatten.length == f.offset && (ls.getD i []).length == P.cellsOf f.type) then some ls.flatten else none
    | some (.slice e), .slice ds [] => if P.cellsOf e == 1 then (ds.mapM (fun d => (lay P n e d).bind plain)).map fun xs => [.row xs] else none
    | _, _ => none
theorem lay_fits {P : Program} {w : World} {base : Nat} {sp : Nat → Bool} {held : Bool} :
    ∀ (n : Nat) (t : TypeId) (d : DataW Unit) (l : List Cl) (fuel : Nat) (cs : List Value) (p : List MemPlace), lay P n t d = some l →
      DataW.trod (H := Unit) (fun _ => ()) P w base sp held fuel t cs = some (d, p) → Fits w l cs := by
  intro n
  induction n with
  | zero => intro t d l fuel cs p h; simp [lay] at h
  | succ n ih =>
    intro t d l fuel cs p h hd
    unfold lay at h
    split at h
    · rename_i b ht
      obtain ⟨b', rfl, hx⟩ := DataW.trod_bool ht hd
      simp at hx h
      obtain ⟨rfl, _⟩ := hx
      subst h
      exact ⟨rfl, trivial⟩
    · rename_i k0 k m ht
      obtain ⟨z, rfl, hx, _⟩ := DataW.trod_int ht hd
      simp at hx h
      obtain ⟨⟨rfl, rfl⟩, _⟩ := hx
      subst h
      exact ⟨rfl, trivial⟩
    · rename_i s ht
      obtain ⟨z, rfl, hx, _⟩ := DataW.trod_string ht hd
      simp at hx h
      obtain ⟨rfl, _⟩ := hx
      subst h
      exact ⟨rfl, trivial⟩
    · rename_i k0 e ds ht
      obtain ⟨xs, m, rfl, hx, hcl, hxl, hel⟩ := DataW.trod_array ht hd
      rw [Option.bind_eq_some_iff] at h
      obtain ⟨ls, hls, h⟩ := h
      split at h
      · rename_i hchk
        simp only [Bool.and_eq_true, beq_iff_eq, List.all_eq_true, List.mem_range] at hchk
        obtain ⟨hsz, hall⟩ := hchk
        simp at h hx
        obtain ⟨rfl, _⟩ := hx
        subst h
        have hlen : ls.length = xs.length := by rw [mapM_some_length hls]; simp
        refine fits_chunks ls cs (by rw [hcl, hsz]) fun i l hi => ?_
        have hil : i < ls.length := (List.getElem?_eq_some_iff.1 hi).1
        obtain ⟨h1, h2⟩ := hall i hil
        have e1 : (ls.getD i []) = l := by rw [List.getD_eq_getElem?_getD, hi]; rfl
        rw [e1] at h2
        have hE := hel i (by omega)
        have hxi : xs[i]? = some (xs[i]'(by omega)) := List.getElem?_eq_getElem (by omega)
        have hg := mapM_some_get hls i (xs[i]'(by omega)).1 (by rw [List.getElem?_map, hxi]; rfl)
        rw [hxi] at hE
        rw [hi] at hg
        rw [h1, h2]
        exact ih e _ l m _ _ hg hE
      · cases h
    · rename_i fs ds ht
      obtain ⟨xs, m, rfl, hx, hcl, hxl, hel⟩ := DataW.trod_struct ht hd
      rw [Option.bind_eq_some_iff] at h
      obtain ⟨ls, hls, h⟩ := h
      split at h
      · rename_i hchk
        simp only [Bool.and_eq_true, beq_iff_eq, List.all_eq_true, List.mem_range] at hchk
        obtain ⟨⟨⟨hsz, hfl⟩, hdl⟩, hall⟩ := hchk
        simp at h hx
        obtain ⟨rfl, _⟩ := hx
        subst h
        refine fits_chunks ls cs (by rw [hcl, hsz]) fun i l hi => ?_
        have hil : i < ls.length := (List.getElem?_eq_some_iff.1 hi).1
        have hfi : fs[i]? = some (fs[i]'(by omega)) := Array.getElem?_eq_getElem (by omega)
        have hh := hall i hil
        rw [hfi] at hh
        simp only [Option.any_some, Bool.and_eq_true, beq_iff_eq] at hh
        obtain ⟨h1, h2⟩ := hh
        have e1 : (ls.getD i []) = l := by rw [List.getD_eq_getElem?_getD, hi]; rfl
        rw [e1] at h2
        have hE := hel i _ hfi
        have hxi : xs[i]? = some (xs[i]'(by omega)) := List.getElem?_eq_getElem (by omega)
        have hg := mapM_some_get hls i (fs[i]'(by omega), (xs[i]'(by omega)).1) (by
          rw [List.getElem?_zip_eq_some]
          exact ⟨by simp, by rw [List.getElem?_map, hxi]; rfl⟩)
        rw [hxi] at hE
        rw [hi] at hg
        rw [h1, h2]
        exact ih _ _ l m _ _ hg hE
      · cases h
    · rename_i e ds ht
      split at h
      · rename_i hc
        rw [beq_iff_eq] at hc
        rw [Option.map_eq_some_iff] at h
        obtain ⟨xs, hxs, rfl⟩ := h
        have hl : xs.length = ds.length := mapM_some_length hxs
        obtain ⟨a, cap, rfl, hcap, hcell⟩ := open_row ht hc hd
        refine ⟨⟨a, cap, by rw [hl], by omega, fun j x hj => ?_⟩, trivial⟩
        have hjl : j < ds.length := by rw [← hl]; exact (List.getElem?_eq_some_iff.1 hj).1
        have hdj : ds[j]? = some (ds[j]'hjl) := List.getElem?_eq_getElem hjl
        have hg := mapM_some_get hxs j _ hdj
        rw [hj, Option.bind_eq_some_iff] at hg
        obtain ⟨l, hl1, hl2⟩ := hg
        obtain ⟨v, m, q, hv, htr⟩ := hcell j _ hdj
        have hf := ih e _ l m [v] q hl1 htr
        rw [hv]
        match l, hl2, hf with
        | [.v y], hl2, hf =>
          simp [plain] at hl2
          have : v = y := hf.1
          rw [this, hl2]
      · cases h
    · cases h
/-- The cells of a listed variable. -/
theorem cells_of {P : Program} {w : World} {n : String} {g : Nat} {cs : Array Value} {t : TypeId} {d : DataW Unit} {fuel m : Nat} {p : List MemPlace} {l : List Cl} (hg : P.globalNamed n = some g) (hv : w.var? P n = some cs)
    (hd : DataW.trod (fun _ => ()) P w 0 (fun _ => true) false fuel t cs.toList = some (d, p)) (hl : lay P m t d = some l) : ∀ i c, l[i]? = some c → ∃ x, w.cell? ⟨g, i, none⟩ = some x ∧ c.fits w x := by
  intro i c hi
  obtain ⟨x, hx, hf⟩ := (lay_fits m t d l fuel cs.toList p hl hd).get i c hi
  exact ⟨x, by rw [World.var?_cell hg hv i]; simpa using hx, hf⟩
end Go.Proofs.YtnngnfajmncjpaaGreatDoor.Tabs
