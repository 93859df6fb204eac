/- DERIVED. RnBx, RnOut in one text. By an AI agent. -/
import Derived.Test.YtkafmpdjpjgkgaaDoorZ22
import Derived.Test.YtkafmpdjpjgkgaaDoorZ34
import Derived.Test.YtkafmpdjpjgkgaaDoorZ26
import Derived.Test.YtkafmpdjpjgkgaaDoorZ29
import Derived.Test.YtkafmpdjpjgkgaaDoorZ21
/- DERIVED. The law's box of a case. By an AI agent. -/
namespace Go.Proofs.YtkafmpdjpjgkgaaDoor.Rn
open Go.ChangeShapes Go.WideShapes Go.ChangeAt Go.RowKit WMath Word Args Mm Co Lk
set_option linter.unusedVariables false
set_option linter.unusedSimpArgs false
abbrev kC (C D T : List Int) (A1 : Option Addr) (c1 : Nat) (A2 : Option Addr) (c2 : Nat) (A3 : Option Addr) (c3 : Nat) : Array Value := #[.slice A1 C.length c1, .slice A2 D.length c2, .slice A3 T.length c3]
/-- A case's capacities. -/
def Cap (C D T : List Int) (c1 c2 c3 : Nat) : Prop := C.length ≤ c1 ∧ c1 ≤ maxLen ∧ D.length ≤ c2 ∧ c2 ≤ maxLen ∧ T.length ≤ c3 ∧ c3 ≤ maxLen
/-- A case as it lies, in a box. -/
structure Bx (q : Nat) (C D T : List Int) (A1 : Option Addr) (c1 : Nat) (A2 : Option Addr) (c2 : Nat) (A3 : Option Addr) (c3 : Nat) (w : World) : Prop where
  b : Blk w q 25 (kC C D T A1 c1 A2 c2 A3 c3)
  la : Lies w A1 (C.map (.int .u16))
  lb : Lies w A2 (D.map (.int .u32))
  lc : Lies w A3 (T.map (.int .u32))
section
variable {W w w' : World} {q : Nat} {C D T : List Int} {A1 A2 A3 : Option Addr} {c1 c2 c3 : Nat}
theorem Bx.ext (h : Bx q C D T A1 c1 A2 c2 A3 c3 w) (hx : Ext w w') : Bx q C D T A1 c1 A2 c2 A3 c3 w' := ⟨h.b.below hx h.b.lt, hx.lies h.la, hx.lies h.lb, hx.lies h.lc⟩
/-- What small came to is stored into the law's box. -/
theorem bx_put {x y z : Value} (hb : Blk w W.heap.size 25 #[x, y, z]) (he : Ext W w) (l1 : Liv (W.heap.size + 1) w A1 (C.map (.int .u16))) (l2 : Liv (W.heap.size + 1) w A2 (D.map (.int .u32))) (l3 : Liv (W.heap.size + 1) w A3 (T.map (.int .u32))) :
    ∃ wf, stow3 w W.heap.size (.slice A1 C.length c1) (.slice A2 D.length c2) (.slice A3 T.length c3) = wf ∧ Bx W.heap.size C D T A1 c1 A2 c2 A3 c3 wf ∧ Ext W wf := by
  have hu := fun v0 v1 v2 => (((Upd.refl (· = W.heap.size) w).setCell (p := ⟨W.heap.size, 0, none⟩) (fun _ => rfl) v0).setCell (p := ⟨W.heap.size, 1, none⟩) (fun _ => rfl) v1).setCell (p := ⟨W.heap.size, 2, none⟩) (fun _ => rfl) v2
  have hx : ∀ k, W.heap.size + 1 ≤ k → ¬ (k = W.heap.size) := fun k hk => by omega
  exact ⟨_, rfl, ⟨((hb.set 0 (.slice A1 C.length c1)).set 1 (.slice A2 D.length c2)).set 2 (.slice A3 T.length c3), (l1.upd (hu _ _ _) hx).lies, (l2.upd (hu _ _ _) hx).lies, (l3.upd (hu _ _ _) hx).lies⟩,
    ext_set (ext_set (ext_set he (Nat.le_refl _) 0 _) (Nat.le_refl _) 1 _) (Nat.le_refl _) 2 _⟩
/-- A further box. -/
theorem bx_new {W0 : World} (l1 : Liv W0.heap.size w A1 (C.map (.int .u16))) (l2 : Liv W0.heap.size w A2 (D.map (.int .u32))) (l3 : Liv W0.heap.size w A3 (T.map (.int .u32))) :
    Bx w.heap.size C D T A1 c1 A2 c2 A3 c3 (w.alloc (.cells (kC C D T A1 c1 A2 c2 A3 c3) 25)) :=
  ⟨Blk.new w _ _, (Ext.alloc _ _).lies l1.lies, (Ext.alloc _ _).lies l2.lies, (Ext.alloc _ _).lies l3.lies⟩
end
/-- An outcome as it lies, in a box. -/
structure Ob (q : Nat) (r : RO) (t : Bool) (A : Option Addr) (c : Nat) (B : Option Addr) (d : Nat) (w : World) : Prop where
  b : Blk w q 31 (oC r.ls.length r.m.d r.er (.slice A r.m.W.length c) (.slice B (tl t r.ls).length d))
  la : Lies w A (r.m.W.map (.int .u32))
  lb : Lies w B ((tl t r.ls).flatMap lcl)
theorem Ob.ext {w w' : World} {q : Nat} {r : RO} {t : Bool} {A : Option Addr} {c : Nat} {B : Option Addr} {d : Nat} (h : Ob q r t A c B d w) (hx : Ext w w') : Ob q r t A c B d w' := ⟨h.b.below hx h.b.lt, hx.lies h.la, hx.lies h.lb⟩
theorem ob_new {w : World} {base : Nat} {r : RO} {t : Bool} {A : Option Addr} {B : Option Addr} (c d : Nat) (la : Liv base w A (r.m.W.map (.int .u32))) (lb : Liv base w B ((tl t r.ls).flatMap lcl)) :
    Ob w.heap.size r t A c B d (w.alloc (.cells (oC r.ls.length r.m.d r.er (.slice A r.m.W.length c) (.slice B (tl t r.ls).length d)) 31)) := ⟨Blk.new w _ _, (Ext.alloc _ _).lies la.lies, (Ext.alloc _ _).lies lb.lies⟩
/-- What stays while two outcomes are made: the law's box. -/
abbrev KT (wz : World) (q : Nat) (x y z : Value) (w : World) : Prop := Ext wz w ∧ w.cell? ⟨q, 0, none⟩ = some x ∧ w.cell? ⟨q, 1, none⟩ = some y ∧ w.cell? ⟨q, 2, none⟩ = some z
theorem KT.of {wz w : World} {q : Nat} {C D T : List Int} {A1 A2 A3 : Option Addr} {c1 c2 c3 : Nat} (h : Bx q C D T A1 c1 A2 c2 A3 c3 wz) (hx : Ext wz w) : KT wz q (.slice A1 C.length c1) (.slice A2 D.length c2) (.slice A3 T.length c3) w :=
  ⟨hx, (h.ext hx).b.cell 0, (h.ext hx).b.cell 1, (h.ext hx).b.cell 2⟩
theorem ext_setl {wz w : World} (h : Ext wz w) {g : Nat} (hg : wz.heap.size ≤ g) (i : Nat) (v : Value) : Ext wz (w.setCell ⟨g, i, none⟩ v) := Below.setCell (p := ⟨g, i, none⟩) h hg v
abbrev z5 : Array Value := oC 0 0 0 (.slice none 0 0) (.slice none 0 0)
/-- An empty box. -/
structure Bk (wz : World) (g : Nat) (w : World) : Prop where
  b : Blk w g 31 z5
  lo : wz.heap.size ≤ g
theorem Bk.new {wz w : World} (h : Ext wz w) : Bk wz w.heap.size (w.alloc (.cells z5 31)) := ⟨Blk.new w _ _, Below.size h⟩
theorem Bk.ext {wz w w' : World} {g : Nat} (h : Bk wz g w) (hx : Ext w w') : Bk wz g w' := ⟨h.b.below hx h.b.lt, h.lo⟩
/-- What an outcome's lists are. -/
structure Lo (r : RO) (t : Bool) (A B : Option Addr) (w : World) : Prop where
  la : Lies w A (r.m.W.map (.int .u32))
  lb : Lies w B ((tl t r.ls).flatMap lcl)
theorem Lo.ext {w w' : World} {r : RO} {t : Bool} {A B : Option Addr} (h : Lo r t A B w) (hx : Ext w w') : Lo r t A B w' := ⟨hx.lies h.la, hx.lies h.lb⟩
theorem lies_keep {w : World} {g : Nat} {t : TypeId} {cs : Array Value} {A : Option Addr} {xs : List Value} (hb : Blk w g t cs) (hno : ∀ (i : Nat) (v : Int), cs[i]? ≠ some (.int .u32 v)) (h : Lies w A xs) (h0 : ∀ u, xs[0]? = some u → ∃ z, u = .int .u32 z) (i : Nat) (v : Value) : Lies (w.setCell ⟨g, i, none⟩ v) A xs := by
  have hne : ∀ b o, A = some ⟨b, o, none⟩ → 0 < xs.length → b ≠ g := fun b o e hl q => by
    obtain ⟨u, hu⟩ : ∃ u, xs[0]? = some u := ⟨_, List.getElem?_eq_getElem hl⟩
    obtain ⟨b', o', e', _, hc⟩ := h.at_ hu
    rw [e] at e'; cases e'; subst q
    have := hc 0 u hu
    rw [hb.cell] at this
    obtain ⟨z, rfl⟩ := h0 u hu
    exact hno _ z this
  exact ((Upd.refl (· = g) w).setCell (p := ⟨g, i, none⟩) (fun _ => rfl) v).lies h fun b o e hl q => hne b o e hl q
theorem oc_no (n d er : Int) (k c j e : Nat) (A B : Option Addr) : ∀ (i : Nat) (v : Int), (oC n d er (.slice A k c) (.slice B j e))[i]? ≠ some (.int .u32 v) := fun i v h => by
  match i with
  | 0 => simp at h
  | 1 => simp at h
  | 2 => simp at h
  | 3 => simp at h
  | 4 => simp at h
  | i + 5 => simp at h
theorem first_w (zs : List Int) : ∀ u, (zs.map (Value.int .u32))[0]? = some u → ∃ z, u = .int .u32 z := fun u h => by
  cases zs with
  | nil => simp at h
  | cons z zs => exact ⟨z, by simpa using h.symm⟩
theorem first_l (ls : List L) : ∀ v, (ls.flatMap lcl)[0]? = some v → ∃ z, v = .int .u32 z := fun v h => by
  cases ls with
  | nil => simp at h
  | cons l ls => exact ⟨_, by simpa [lcl] using h.symm⟩
abbrev stow5 (w : World) (g : Nat) (v0 v1 v2 v3 v4 : Value) : World := ((((w.setCell ⟨g, 0, none⟩ v0).setCell ⟨g, 1, none⟩ v1).setCell ⟨g, 2, none⟩ v2).setCell ⟨g, 3, none⟩ v3).setCell ⟨g, 4, none⟩ v4
theorem Lo.stow {w : World} {r : RO} {t : Bool} {A B : Option Addr} (h : Lo r t A B w) {g : Nat} (n d er : Int) (k c j e : Nat) (F G : Option Addr) (hb : Blk w g 31 z5) : Lo r t A B (stow5 w g (.int .i64 n) (.int .i64 d) (.int .i64 er) (.slice F k c) (.slice G j e)) := by
  have b0 := hb.set 0 (.int .i64 n); have b1 := b0.set 1 (.int .i64 d); have b2 := b1.set 2 (.int .i64 er); have b3 := b2.set 3 (.slice F k c)
  have n0 := oc_no 0 0 0 0 0 0 0 none none; have n1 := oc_no n 0 0 0 0 0 0 none none; have n2 := oc_no n d 0 0 0 0 0 none none; have n3 := oc_no n d er 0 0 0 0 none none; have n4 := oc_no n d er k c 0 0 F none
  exact ⟨lies_keep b3 n4 (lies_keep b2 n3 (lies_keep b1 n2 (lies_keep b0 n1 (lies_keep hb n0 h.la (first_w _) _ _) (first_w _) _ _) (first_w _) _ _) (first_w _) _ _) (first_w _) _ _,
    lies_keep b3 n4 (lies_keep b2 n3 (lies_keep b1 n2 (lies_keep b0 n1 (lies_keep hb n0 h.lb (first_l _) _ _) (first_l _) _ _) (first_l _) _ _) (first_l _) _ _) (first_l _) _ _⟩
theorem blk_stow {w : World} {g p : Nat} {t : TypeId} {cs : Array Value} (h : Blk w p t cs) (hne : p ≠ g) (v0 v1 v2 v3 v4 : Value) : Blk (stow5 w g v0 v1 v2 v3 v4) p t cs :=
  ((((h.far (p := ⟨g, 0, none⟩) hne v0).far (p := ⟨g, 1, none⟩) hne v1).far (p := ⟨g, 2, none⟩) hne v2).far (p := ⟨g, 3, none⟩) hne v3).far (p := ⟨g, 4, none⟩) hne v4
theorem ext_stow {wz w : World} (h : Ext wz w) {g : Nat} (hg : wz.heap.size ≤ g) (v0 v1 v2 v3 v4 : Value) : Ext wz (stow5 w g v0 v1 v2 v3 v4) := ext_setl (ext_setl (ext_setl (ext_setl (ext_setl h hg _ _) hg _ _) hg _ _) hg _ _) hg _ _
abbrev stowO (w : World) (g : Nat) (r : RO) (t : Bool) (A : Option Addr) (c : Nat) (B : Option Addr) (d : Nat) : World := stow5 w g (.int .i64 r.ls.length) (.int .i64 r.m.d) (.int .i64 r.er) (.slice A r.m.W.length c) (.slice B (tl t r.ls).length d)
/-- One outcome is stored. -/
theorem ob_put {w : World} {g : Nat} {r : RO} {t : Bool} {A B : Option Addr} (c d : Nat) (hb : Blk w g 31 z5) (h : Lo r t A B w) : Ob g r t A c B d (stowO w g r t A c B d) := by
  have hl := h.stow r.ls.length r.m.d r.er r.m.W.length c (tl t r.ls).length d A B hb
  exact ⟨((((hb.set 0 _).set 1 _).set 2 _).set 3 _).set 4 _, hl.la, hl.lb⟩
/-- Two outcomes, in two boxes. -/
structure Two (wz : World) (p q : Nat) (r r' : RO) (t t' : Bool) (A : Option Addr) (c : Nat) (B : Option Addr) (d : Nat) (A' : Option Addr) (c' : Nat) (B' : Option Addr) (d' : Nat) (w : World) : Prop where
  x : Ob p r t A c B d w
  y : Ob q r' t' A' c' B' d' w
  e : Ext wz w
theorem two_put {wz w : World} {p q : Nat} {r r' : RO} {t t' : Bool} {A B A' B' : Option Addr} (c d c' d' : Nat) (hx : Ext wz w) (hp : Bk wz p w) (hq : Bk wz q w) (hne : p ≠ q) (ha : Lo r t A B w) (hb : Lo r' t' A' B' w) :
    Two wz p q r r' t t' A c B d A' c' B' d' (stowO (stowO w p r t A c B d) q r' t' A' c' B' d') := by
  have h1 := ob_put c d hp.b ha
  have hqs : Blk (stowO w p r t A c B d) q 31 z5 := blk_stow hq.b (Ne.symm hne) _ _ _ _ _
  have h2 := ob_put c' d' hqs (hb.stow r.ls.length r.m.d r.er r.m.W.length c (tl t r.ls).length d A B hp.b)
  have h3 := (Lo.mk (t := t) (r := r) h1.la h1.lb).stow r'.ls.length r'.m.d r'.er r'.m.W.length c' (tl t' r'.ls).length d' A' B' hqs
  exact ⟨⟨blk_stow h1.b hne _ _ _ _ _, h3.la, h3.lb⟩, h2, ext_stow (ext_stow hx hp.lo _ _ _ _ _) hq.lo _ _ _ _ _⟩
theorem in_u8 {z : Int} (h : (Lit.int .u8 z).wf = true) : 0 ≤ z ∧ z < 256 := by
  have := h; simp [Lit.wf] at this
  have e1 : IntKind.u8.min = 0 := rfl
  have e2 : IntKind.u8.max = 255 := rfl
  omega
theorem in_u16 {z : Int} (h : (Lit.int .u16 z).wf = true) : 0 ≤ z ∧ z < 65536 := by
  have := h; simp [Lit.wf] at this
  have e1 : IntKind.u16.min = 0 := rfl
  have e2 : IntKind.u16.max = 65535 := rfl
  omega
theorem in_u32 {z : Int} (h : (Lit.int .u32 z).wf = true) : 0 ≤ z ∧ z < 4294967296 := by
  have := h; simp [Lit.wf] at this
  have e1 : IntKind.u32.min = 0 := rfl
  have e2 : IntKind.u32.max = 4294967295 := rfl
  omega
/-- A case that came in, opened. -/
theorem IsCase.open_ {W : World} {v : Value} {C D T : List Int} (h : IsCase W v C D T) : ∃ A1 c1 A2 c2 A3 c3, v = .agg (kC C D T A1 c1 A2 c2 A3 c3) ∧ Cap C D T c1 c2 c3 ∧ Lies W A1 (C.map (.int .u16)) ∧ Lies W A2 (D.map (.int .u32)) ∧ Lies W A3 (T.map (.int .u32)) ∧ Fit (m0 (C.take 100) (D.take 30) (T.take 50)) := by
  obtain ⟨v0, v1, v2, rfl, h0, h1, h2⟩ := h.ex
  obtain ⟨A1, c1, rfl, a1, b1, l1⟩ := h0.ex
  obtain ⟨A2, c2, rfl, a2, b2, l2⟩ := h1.ex
  obtain ⟨A3, c3, rfl, a3, b3, l3⟩ := h2.ex
  exact ⟨A1, c1, A2, c2, A3, c3, rfl, ⟨a1, b1, a2, b2, a3, b3⟩, l1, l2, l3,
    ⟨fun z hz => in_u16 (h0.wf z (List.mem_of_mem_take hz)), fun z hz => in_u32 (h1.wf z (List.mem_of_mem_take hz)), fun z hz => in_u32 (h2.wf z (List.mem_of_mem_take hz)), Nat.zero_le _, ⟨Int.le_refl 0, by show (0 : Int) < 4294967296; decide⟩,
      by show (C.take 100).length ≤ 60000; rw [List.length_take]; omega, by show (D.take 30).length ≤ 16000; rw [List.length_take]; omega, by show (T.take 50).length ≤ _; rw [List.length_take]; omega⟩⟩
/-- How many steps there may be. -/
theorem lim (z : Int) (hz : z ≤ 1000) : ∃ n : Nat, (if (1048576 : Int) < z then 1048576 else z) = z ∧ (if (0 : Int) < z then z else 0) = (n : Int) ∧ n ≤ 1000 ∧ (0 ≤ z → (n : Int) = z) ∧ (z < 0 → n = 0) := by
  refine ⟨z.toNat, if_neg (by omega), ?_, by omega, fun h => by omega, fun h => by omega⟩
  split <;> omega
theorem few_le (z : Int) : (if 300 < z then 300 else z) ≤ 300 := by split <;> omega
theorem take_len (C : List Int) (n : Nat) : (C.take n).length ≤ n := by rw [List.length_take]; omega
theorem take_take (C : List Int) (n : Nat) : (C.take n).take n = C.take n := by rw [List.take_take, Nat.min_self]
/-- The contract of small over a case in the law's box. -/
theorem small_box {w : World} {q : Nat} {C D T : List Int} {A1 A2 A3 : Option Addr} {c1 c2 c3 : Nat} (h : Bx q C D T A1 c1 A2 c2 A3 c3 w) (hc : Cap C D T c1 c2 c3) :
    Calls Tryd.prog 8 #[.agg (kC C D T A1 c1 A2 c2 A3 c3)] w (SmlEnd (C.take 100) (D.take 30) (T.take 50) w) :=
  small A1 c1 C A2 c2 D A3 c3 T w h.la h.lb h.lc hc.1 hc.2.1 hc.2.2.1 hc.2.2.2.1 hc.2.2.2.2.1 hc.2.2.2.2.2
end Go.Proofs.YtkafmpdjpjgkgaaDoor.Rn
/- DERIVED. Leaks as they lie; the contract of the reference's Same, of outcomes that are one. By an AI agent. -/
namespace Go.Proofs.YtkafmpdjpjgkgaaDoor.Rn
open Go.ChangeShapes Go.WideShapes Go.ChangeAt Go.RowKit WMath Word Args Mm Co Lk
set_option linter.unusedVariables false
set_option linter.unusedSimpArgs false
theorem flat10 (ls : List L) (k : Nat) (l : L) (h : ls[k]? = some l) (j : Nat) (hj : j < 10) : (ls.flatMap lcl)[k * 10 + j]? = (lcl l)[j]? := by
  induction ls generalizing k with
  | nil => simp at h
  | cons x ls ih =>
    have hx : (lcl x).length = 10 := rfl
    rw [List.flatMap_cons]
    cases k with
    | zero =>
      have hxl : x = l := by simpa using h
      subst hxl
      rw [Nat.zero_mul, Nat.zero_add, List.getElem?_append_left (by rw [hx]; exact hj)]
    | succ k =>
      rw [List.getElem?_append_right (by rw [hx]; omega), hx, show (k + 1) * 10 + j - 10 = k * 10 + j by omega]
      exact ih k (by simpa using h)
/-- A leak's ten cells. -/
theorem leak_at {w : World} {A : Option Addr} {ls : List L} (h : Lies w A (ls.flatMap lcl)) {k : Nat} {l : L} (hk : ls[k]? = some l) :
    ∃ b o, A = some ⟨b, o, none⟩ ∧ b < w.heap.size ∧ w.cell? ⟨b, o + k * 10, none⟩ = some (u l.pc) ∧ w.cell? ⟨b, o + k * 10 + 1, none⟩ = some (.int .u16 (l.h : Int)) ∧ w.cell? ⟨b, o + k * 10 + 2, none⟩ = some (u l.a) ∧ w.cell? ⟨b, o + k * 10 + 3, none⟩ = some (u l.b) ∧ w.cell? ⟨b, o + k * 10 + 4, none⟩ = some (u l.r) ∧ w.cell? ⟨b, o + k * 10 + 5, none⟩ = some (u l.o) ∧ w.cell? ⟨b, o + k * 10 + 6, none⟩ = some (u l.bus) ∧ w.cell? ⟨b, o + k * 10 + 7, none⟩ = some (u l.ad) ∧ w.cell? ⟨b, o + k * 10 + 8, none⟩ = some (.bool l.me) ∧ w.cell? ⟨b, o + k * 10 + 9, none⟩ = some (.bool l.rn) := by
  have f := flat10 ls k l hk
  obtain ⟨b, o, e, hb, hc⟩ := h.at_ ((f 0 (by decide)).trans (show _ = some (u l.pc) from rfl))
  refine ⟨b, o, e, hb, ?_, ?_, ?_, ?_, ?_, ?_, ?_, ?_, ?_, ?_⟩
  · exact hc _ _ ((f 0 (by decide)).trans rfl)
  · rw [Nat.add_assoc]; exact hc _ _ ((f 1 (by decide)).trans rfl)
  · rw [Nat.add_assoc]; exact hc _ _ ((f 2 (by decide)).trans rfl)
  · rw [Nat.add_assoc]; exact hc _ _ ((f 3 (by decide)).trans rfl)
  · rw [Nat.add_assoc]; exact hc _ _ ((f 4 (by decide)).trans rfl)
  · rw [Nat.add_assoc]; exact hc _ _ ((f 5 (by decide)).trans rfl)
  · rw [Nat.add_assoc]; exact hc _ _ ((f 6 (by decide)).trans rfl)
  · rw [Nat.add_assoc]; exact hc _ _ ((f 7 (by decide)).trans rfl)
  · rw [Nat.add_assoc]; exact hc _ _ ((f 8 (by decide)).trans rfl)
  · rw [Nat.add_assoc]; exact hc _ _ ((f 9 (by decide)).trans rfl)
theorem ext_drewN {w w' : World} (h : Ext w w') (n : Nat) : Ext w (w'.drewN n) := h.trans (below_drewN (Below.refl _ _) n)
set_option maxRecDepth 100000 in
set_option maxHeartbeats 4000000 in
theorem sameO (n d er : Int) (A A' B B' : Option Addr) (c c' e e' : Nat) (zs : List Int) (ls : List L) (w : World) (hA : Lies w A (zs.map (.int .u32))) (hA' : Lies w A' (zs.map (.int .u32))) (hB : Lies w B (ls.flatMap lcl)) (hB' : Lies w B' (ls.flatMap lcl)) (hz : zs.length ≤ 100000) (hl : ls.length ≤ 100000) :
    Calls Tryd.prog 13 #[.agg (oC n d er (.slice A zs.length c) (.slice B ls.length e)), .agg (oC n d er (.slice A' zs.length c') (.slice B' ls.length e'))] w fun en w' => en = .returned (.bool true) ∧ Ext w w' := by
  obtain ⟨w1, hw1⟩ : ∃ w1, (w.alloc (.cells (oC n d er (.slice A zs.length c) (.slice B ls.length e)) 31)).alloc (.cells (oC n d er (.slice A' zs.length c') (.slice B' ls.length e')) 31) = w1 := ⟨_, rfl⟩
  have hx : Ext w w1 := by rw [← hw1]; exact (Ext.alloc _ _).trans (Ext.alloc _ _)
  have h0 : Blk w1 w.heap.size 31 (oC n d er (.slice A zs.length c) (.slice B ls.length e)) := by rw [← hw1]; exact (Blk.new w _ _).alloc _
  have h1 : Blk w1 (w.heap.size + 1) 31 (oC n d er (.slice A' zs.length c') (.slice B' ls.length e')) := by
    have := Blk.new (w.alloc (.cells (oC n d er (.slice A zs.length c) (.slice B ls.length e)) 31)) 31 (oC n d er (.slice A' zs.length c') (.slice B' ls.length e'))
    rw [World.size_alloc, hw1] at this; exact this
  have HW := Lib.hid hw1
  have HA := Lib.hid (hx.lies hA); have HA' := Lib.hid (hx.lies hA'); have HB := Lib.hid (hx.lies hB); have HB' := Lib.hid (hx.lies hB')
  have HZ := Lib.hid hz; have HL := Lib.hid hl; have HX := Lib.hid hx; have H0 := Lib.hid h0; have H1 := Lib.hid h1
  clear hA hA' hB hB' hz hx h0 h1 hw1
  go_enter Tryd.func13, Tryd.ntmps13
  go_upto_region 1 with fail
  change Code.wp _ _ _ _ ((w.alloc (.cells (oC n d er (.slice A zs.length c) (.slice B ls.length e)) 31)).alloc (.cells (oC n d er (.slice A' zs.length c') (.slice B' ls.length e')) 31))
  rw [HW.out]
  clear HW
  have x0 := H0.out.cell 0; have x1 := H0.out.cell 1; have x2 := H0.out.cell 2; have x3 := H0.out.cell 3
  have y0 := H1.out.cell 0; have y1 := H1.out.cell 1; have y2 := H1.out.cell 2; have y3 := H1.out.cell 3
  simp at x0 x1 x2 x3 y0 y1 y2 y3
  go_wp2_with fail
  refine (MmR.same A A' c c' zs _ HA.out HA'.out HZ.out).mono ?_
  rintro en w2 ⟨rfl, hb⟩
  have hb2 : Ext w1 w2 := hb
  have G0 := Lib.hid (H0.out.below hb2 H0.out.lt); have G1 := Lib.hid (H1.out.below hb2 H1.out.lt)
  have GB := Lib.hid (hb2.lies HB.out); have GB' := Lib.hid (hb2.lies HB'.out); have GX := Lib.hid (HX.out.trans hb2)
  clear x0 x1 x2 x3 y0 y1 y2 y3 hb hb2 H0 H1 HB HB' HX HA HA'
  have x4 := G0.out.cell 4; have y4 := G1.out.cell 4
  simp at x4 y4
  go_wp2_with fail
  clear x4 y4
  go_loopw [5] (fun vi wr => ∃ k : Nat, k ≤ ls.length ∧ vi = .int .i64 k ∧ Hid (Ext w2 wr)) (fun vi _ => ls.length - (intOf vi).toNat)
  case atStart => exact ⟨0, by omega, rfl, Lib.hid (Ext.refl _)⟩
  case round =>
    obtain ⟨k, hk, rfl, HQ⟩ := hrel
    have x4 := (G0.out.below HQ.out G0.out.lt).cell 4; have y4 := (G1.out.below HQ.out G1.out.lt).cell 4
    simp at x4 y4
    by_cases hlt : k < ls.length
    · obtain ⟨l, hkl⟩ : ∃ l, ls[k]? = some l := ⟨_, List.getElem?_eq_getElem hlt⟩
      obtain ⟨b, o, rfl, _, a0, a1, a2, a3, a4, a5, a6, a7, a8, a9⟩ := leak_at (HQ.out.lies GB.out) hkl
      obtain ⟨b', o', rfl, _, b0, b1, b2, b3, b4, b5, b6, b7, b8, b9⟩ := leak_at (HQ.out.lies GB'.out) hkl
      have hE := eq_leak l
      have hG : Tryd.prog.eqGuardType Tryd.prog.depth 39 = false := by kernel_rfl
      clear hkl
      go_wp2_with fail
      go_quiet (fail)
      go_wp2_with fail
      go_roundw
      case rel => exact ⟨k + 1, by omega, by go_num, Lib.hid (ext_drewN HQ.out nq)⟩
      case measure => simp [intOf]; omega
    · go_wp2_with fail
      go_ret
      exact ⟨rfl, GX.out.trans HQ.out⟩
end Go.Proofs.YtkafmpdjpjgkgaaDoor.Rn
