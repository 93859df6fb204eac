/- DERIVED. RnRex in one text. By an AI agent. -/
import Derived.Test.YtkafmpdjpjgkgaaDoorZ42
import Derived.Test.YtkafmpdjpjgkgaaDoorZ25
import Derived.Test.YtkafmpdjpjgkgaaDoorZ26
import Derived.Test.YtkafmpdjpjgkgaaDoorZ54
import Derived.Deep.DeepCutAuto
import Derived.Deep.CutBlock
import Derived.Test.YtkafmpdjpjgkgaaDoorZ01
/- DERIVED. The contract of the reference's Exec. By an AI agent. -/
namespace Go.Proofs.YtkafmpdjpjgkgaaDoor.Rn
open Go.ChangeShapes Go.WideShapes Go.ChangeAt Go.RowKit WMath Word Args Mm MmR Co Lk
set_option linter.unusedVariables false
set_option linter.unusedSimpArgs false
theorem set_in (s : St) (k : Nat) (z : Int) (h : k < s.W.length) : setS s k z = { s with W := s.W.set k z } := by
  unfold setS; rw [if_pos ⟨by omega, by omega⟩]; simp
/-- Ahead of the loop: the zero state, the result, memory in which words are set. -/
structure Tq (w : World) (n0 : Nat) (h : Hd) (g : Nat) (m : St) (wr : World) : Prop where
  bs : Blk wr g 51 (sC zS)
  br : Blk wr w.heap.size 31 (oC 0 0 0 (.slice none 0 0) (.slice none 0 0))
  p : RP n0 h m wr
  e : Ext w wr
  hB : ∀ k, h.B k → k < g
  l0 : w.heap.size < n0
  l1 : n0 ≤ g
  sz : wr.heap.size = g + 1
theorem tq_new (w w1 w2 : World) (h : Hd) (M : St) (hw1 : w1 = w.alloc (.cells (oC 0 0 0 (.slice none 0 0) (.slice none 0 0)) 31)) (p : RP w1.heap.size h M w2) (hx : Ext w1 w2) :
    Tq w w1.heap.size h w2.heap.size M (w2.alloc (.cells (sC zS) 51)) := by
  have he : Ext w2 (w2.alloc (.cells (sC zS) 51)) := Ext.alloc _ _
  have hs := Below.size hx
  have hsz : w1.heap.size = w.heap.size + 1 := by rw [hw1]; simp
  have hb : Blk w1 w.heap.size 31 (oC 0 0 0 (.slice none 0 0) (.slice none 0 0)) := by rw [hw1]; exact Blk.new w _ _
  have hw : Ext w w1 := by rw [hw1]; exact Ext.alloc _ _
  exact ⟨Blk.new w2 _ _, (hb.below hx hb.lt).below he (by have := (hb.below hx hb.lt).lt; exact this), p.below he, hw.trans (hx.trans he), fun k hk => (p.lt hk).2, by omega, hs, World.size_alloc _ _⟩
/-- A word is set. -/
theorem Tq.set {w : World} {n0 : Nat} {h : Hd} {g : Nat} {m : St} {wr : World} (t : Tq w n0 h g m wr) {k q : Nat} (hk : k < m.W.length) (hq : h.AW = some ⟨q, 0, none⟩) (z : Int) (hz : 0 ≤ z ∧ z < 4294967296) :
    Tq w n0 h g (setS m k z) (wr.drew.setCell ⟨q, k, none⟩ (.int .u32 z)) := by
  have hp := t.p.drew.word hq k z hz
  have l0 := t.l0; have l1 := t.l1
  have hl := t.p.lt (.inr (.inr (.inl hq)))
  have hb := t.hB q (.inr (.inr (.inl hq)))
  have hu : Upd (· = q) wr (wr.drew.setCell ⟨q, k, none⟩ (.int .u32 z)) := upd_set _ _ k _ ((Upd.refl (· = q) wr).drew)
  refine ⟨t.bs.upd hu (by omega), t.br.upd hu (by omega), ?_, Below.trans t.e (hu.below (Below.size t.e) fun k e => by omega), t.hB, l0, l1, by simpa using t.sz⟩
  rw [set_in m k z hk]; exact hp.1
theorem Tq.done {w : World} {n0 : Nat} {h : Hd} {g : Nat} {m : St} {wr : World} (t : Tq w n0 h g m wr) : Tr w n0 h g zS m 0 80 none 0 [] (wr.alloc (.cells (oC 0 0 80 (.slice none 0 0) (.slice none 0 0)) 31)) := by
  have hx : Ext wr (wr.alloc (.cells (oC 0 0 80 (.slice none 0 0) (.slice none 0 0)) 31)) := Ext.alloc _ _
  exact ⟨t.bs.below hx t.bs.lt, by have := Blk.new wr 31 (oC 0 0 80 (.slice none 0 0) (.slice none 0 0)); rw [t.sz] at this; exact this, t.br.below hx t.br.lt, World.ownsRow_nil _ _ _ _, t.p.below hx, t.e.trans hx, t.hB, t.l0, t.l1⟩
/-- Where the loop stands. -/
def At (on : Bool) (a : List L) (n : Nat) (s : S) (m : St) (er : Int) (R : RO) : Prop := match on with
  | true => a.length ≤ n ∧ er = 80 ∧ RO.pre a (runV (n - a.length) s m) = R
  | false => a.length ≤ n ∧ R = ⟨a, er, m⟩
/-- What is left of the loop. -/
def left (n : Nat) (v : Value) (c : Option Value) : Nat := (match v with | .bool true => 1 | _ => 0) + (n - (match c with | some x => (intOf x).toNat | none => 0))
theorem At.stop {a : List L} {n : Nat} {s x : S} {m m' : St} {l : L} {R : RO} (h : At true a n s m 80 R) (hl : a.length < n) (hq : leakV s m = ⟨x, l, true, 0, m'⟩) : At false (a ++ [l]) n x m' 0 R := by
  obtain ⟨f, hf⟩ : ∃ f, n - a.length = f + 1 := ⟨n - a.length - 1, by omega⟩
  have := h.2.2
  rw [hf, run_stop hq a] at this
  exact ⟨by rw [List.length_append]; show a.length + 1 ≤ n; omega, this.symm⟩
theorem At.fail {a : List L} {n : Nat} {s x : S} {m m' : St} {l : L} {st : Bool} {er : Int} {R : RO} (h : At true a n s m 80 R) (hl : a.length < n) (hq : leakV s m = ⟨x, l, st, er, m'⟩) (he : er ≠ 0) : At false a n s m' er R := by
  obtain ⟨f, hf⟩ : ∃ f, n - a.length = f + 1 := ⟨n - a.length - 1, by omega⟩
  have := h.2.2
  rw [hf, run_err hq he a] at this
  exact ⟨h.1, this.symm⟩
theorem At.on {a : List L} {n : Nat} {s x : S} {m m' : St} {l : L} {R : RO} (h : At true a n s m 80 R) (hl : a.length < n) (hq : leakV s m = ⟨x, l, false, 0, m'⟩) : At true (a ++ [l]) n x m' 80 R := by
  obtain ⟨f, hf⟩ : ∃ f, n - a.length = f + 1 := ⟨n - a.length - 1, by omega⟩
  have := h.2.2
  rw [hf, run_on hq a] at this
  have e : (a ++ [l]).length = a.length + 1 := by rw [List.length_append]; rfl
  exact ⟨by rw [e]; omega, rfl, by rw [e, show n - (a.length + 1) = f by omega]; exact this⟩
theorem At.out {a : List L} {n : Nat} {s : S} {m : St} {er : Int} {R : RO} (h : At true a n s m er R) (hl : ¬ a.length < n) : R = ⟨a, er, m⟩ := by
  have h1 := h.1
  have := h.2.2
  rw [show n - a.length = 0 by omega, run_zero] at this
  rw [← this, h.2.1]
theorem blk_g {w w' : World} {g : Nat} {t : TypeId} {cs : Array Value} {o : Option Nat} (hg : w.grownBy w' o) (hb : Blk w g t cs) (ho : ∀ k, o = some k → k ≠ g) : Blk w' g t cs := (hg.block g hb.lt fun e => ho g e.symm rfl).trans hb
/-- A step's end: the leak is appended, the state and the count are stored. -/
theorem Tr.next {w w1 w2 : World} {n0 : Nat} {h : Hd} {g : Nat} {s : S} {m : St} {n : Nat} {er : Int} {B : Option Addr} {d : Nat} {a : List L} (t : Tr w n0 h g s m n er B d a w1) {l : L} {B' : Option Addr} {d' : Nat} (hg : w1.grownBy w2 (Value.slice B a.length d).ownBlock) (ho : w2.ownsRow (g + 1 + 1) 39 10 (.slice B' (a.length + 1) d') (a.length + 1) (a.flatMap lcl ++ lcl l)) (x : S) :
    Tr w n0 h g x m (n + 1) er B' d' (a ++ [l]) (((put13 w2 g x).setCell ⟨g + 1, 0, none⟩ (.int .i64 ((n : Int) + 1))).setCell ⟨g + 1, 4, none⟩ (.slice B' (a.length + 1) d')) := by
  have l0 := t.l0; have l1 := t.l1
  have hq : ∀ k, some k = (Value.slice B a.length d).ownBlock → g + 1 < k := fun k e => by
    rcases own_form t.own with ⟨e2, _⟩ | ⟨g2, e2, h3, _⟩
    · rw [e2] at e; simp [Value.ownBlock] at e
    · rw [e2] at e; simp [Value.ownBlock] at e; omega
  have hu : Upd (fun k => some k = (Value.slice B a.length d).ownBlock) w1 w2 := (Upd.refl _ w1).grown hg fun k e _ => e.symm
  have p2 := t.p.upd hu (fun k hk q => by have := hq k q; have := t.lo k hk; omega)
  have b0 := t.bs.upd hu (fun q => by have := hq _ q; omega)
  have b1 := t.bo.upd hu (fun q => by have := hq _ q; omega)
  have b2 := t.br.upd hu (fun q => by have := hq _ q; omega)
  obtain ⟨h1, h2⟩ := blk13 b0 x
  have hs : Upd (fun k => k = g ∨ k = g + 1) w2 (((put13 w2 g x).setCell ⟨g + 1, 0, none⟩ (.int .i64 ((n : Int) + 1))).setCell ⟨g + 1, 4, none⟩ (.slice B' (a.length + 1) d')) :=
    ((h2.mono fun k e => .inl e).setCell (p := ⟨g + 1, 0, none⟩) (fun _ => .inr rfl) _).setCell (p := ⟨g + 1, 4, none⟩) (fun _ => .inr rfl) _
  have hlen : (a ++ [l]).length = a.length + 1 := by simp
  refine ⟨(h1.far (p := ⟨g + 1, 0, none⟩) (by simp) _).far (p := ⟨g + 1, 4, none⟩) (by simp) _, ?_, b2.upd hs (by omega), ?_, p2.upd hs (fun k hk q => by have := t.lo k hk; omega), ?_, t.hB, l0, l1⟩
  · rw [hlen]
    exact ((b1.upd h2 (by omega)).set 0 _).set 4 _
  · rw [hlen, List.flatMap_append, show [l].flatMap lcl = lcl l from by simp]
    refine Mm.own_upd ho hs (fun k e q => ?_)
    rcases own_form ho with ⟨e2, _⟩ | ⟨g2, e2, h3, _⟩
    · rw [e2] at e; cases e
    · rw [e2] at e; cases e; omega
  · exact Below.trans (Below.trans t.e (hu.below (Below.size t.e) fun k q => by have := hq k q; omega)) (hs.below (Nat.le_trans (Below.size t.e) hu.size) fun k q => by omega)
theorem Tr.lastL {w w1 : World} {n0 : Nat} {h : Hd} {g : Nat} {s : S} {m : St} {n : Nat} {er : Int} {B : Option Addr} {d : Nat} {a : List L} (t : Tr w n0 h g s m n er B d a w1) {A : Option Addr} {k c : Nat} {ws : List Value} {b : Nat} (ho : Liv b w1 A ws) (hb : g + 1 < b) (dr : Int) :
    Tf w g n dr er A k c B a.length d ws (a.flatMap lcl) ((w1.setCell ⟨g + 1, 1, none⟩ (.int .i64 dr)).setCell ⟨g + 1, 3, none⟩ (.slice A k c)) := by
  have l0 := t.l0; have l1 := t.l1
  have hu : Upd (· = g + 1) w1 ((w1.setCell ⟨g + 1, 1, none⟩ (.int .i64 dr)).setCell ⟨g + 1, 3, none⟩ (.slice A k c)) := upd_set _ _ 3 _ (upd_set w1 _ 1 _ (Upd.refl _ w1))
  exact ⟨(t.bo.set 1 _).set 3 _, t.br.upd hu (by omega), (ho.low hb).upd hu (fun k hk q => by omega), (liv_own t.own).upd hu (fun k hk q => by omega),
    Below.trans t.e (hu.below (Below.size t.e) fun k q => by omega), by omega⟩
/-- The memory's box, as it is read last. -/
abbrev K7 (h : Hd) (m : St) (w : World) : Prop := (∃ cs, Blk w h.r 53 cs ∧ cs[1]? = some (.slice h.AW m.W.length h.cW) ∧ cs[3]? = some (.int .i64 m.d)) ∧ w.cell? ⟨h.r, 1, none⟩ = some (.slice h.AW m.W.length h.cW) ∧ w.cell? ⟨h.r, 3, none⟩ = some (.int .i64 m.d)
theorem K7.of {h : Hd} {m : St} {w : World} {cs : Array Value} (hb : Blk w h.r 53 cs) (h1 : cs[1]? = some (.slice h.AW m.W.length h.cW)) (h3 : cs[3]? = some (.int .i64 m.d)) : K7 h m w := ⟨⟨cs, hb, h1, h3⟩, (hb.cell 1).trans h1, (hb.cell 3).trans h3⟩
theorem K7.alloc {h : Hd} {m : St} {w : World} (k : K7 h m w) (o : Obj) : K7 h m (w.alloc o) := by
  obtain ⟨⟨cs, hb, h1, h3⟩, _⟩ := k
  exact K7.of (hb.alloc o) h1 h3
theorem K7.drew {h : Hd} {m : St} {w : World} (k : K7 h m w) : K7 h m w.drew := by
  obtain ⟨⟨cs, hb, h1, h3⟩, _⟩ := k
  exact K7.of hb.drew h1 h3
theorem K7.far {h : Hd} {m : St} {w : World} (k : K7 h m w) {g : Nat} (hg : h.r ≠ g) (i : Nat) (v : Value) : K7 h m (w.setCell ⟨g, i, none⟩ v) := by
  obtain ⟨⟨cs, hb, h1, h3⟩, _⟩ := k
  exact K7.of (hb.far (p := ⟨g, i, none⟩) hg v) h1 h3
/-- The two boxes of a step. -/
structure Kq (q : Nat) (x : S) (l : L) (w : World) : Prop where
  x : Blk w q 51 (sC x)
  l : Blk w (q + 1) 39 (lC l)
abbrev K24 (q : Nat) (x : S) (l : L) (w : World) : Prop := Kq q x l w ∧
  (w.cell? ⟨q, 0, none⟩ = some (u (x.r 0)) ∧ w.cell? ⟨q, 1, none⟩ = some (u (x.r 1)) ∧ w.cell? ⟨q, 2, none⟩ = some (u (x.r 2)) ∧ w.cell? ⟨q, 3, none⟩ = some (u (x.r 3)) ∧ w.cell? ⟨q, 4, none⟩ = some (u (x.r 4)) ∧ w.cell? ⟨q, 5, none⟩ = some (u (x.r 5)) ∧ w.cell? ⟨q, 6, none⟩ = some (u (x.r 6)) ∧ w.cell? ⟨q, 7, none⟩ = some (u (x.r 7)) ∧ w.cell? ⟨q, 8, none⟩ = some (u x.pc) ∧ w.cell? ⟨q, 9, none⟩ = some (.bool x.n) ∧ w.cell? ⟨q, 10, none⟩ = some (.bool x.z) ∧ w.cell? ⟨q, 11, none⟩ = some (.bool x.c) ∧ w.cell? ⟨q, 12, none⟩ = some (.bool x.v)) ∧
  (w.cell? ⟨q + 1, 0, none⟩ = some (u l.pc) ∧ w.cell? ⟨q + 1, 1, none⟩ = some (.int .u16 (l.h : Int)) ∧ w.cell? ⟨q + 1, 2, none⟩ = some (u l.a) ∧ w.cell? ⟨q + 1, 3, none⟩ = some (u l.b) ∧ w.cell? ⟨q + 1, 4, none⟩ = some (u l.r) ∧ w.cell? ⟨q + 1, 5, none⟩ = some (u l.o) ∧ w.cell? ⟨q + 1, 6, none⟩ = some (u l.bus) ∧ w.cell? ⟨q + 1, 7, none⟩ = some (u l.ad) ∧ w.cell? ⟨q + 1, 8, none⟩ = some (.bool l.me) ∧ w.cell? ⟨q + 1, 9, none⟩ = some (.bool l.rn))
abbrev K2 (g : Nat) (n : Nat) (B : Option Addr) (k d : Nat) (w : World) : Prop := w.cell? ⟨g + 1, 0, none⟩ = some (.int .i64 (n : Int)) ∧ w.cell? ⟨g + 1, 4, none⟩ = some (.slice B k d)
theorem K24.of {w : World} {q : Nat} {x : S} {l : L} (h : Blk w q 51 (sC x)) (h2 : Blk w (q + 1) 39 (lC l)) : K24 q x l w := ⟨⟨h, h2⟩, Blk.cells13 h, Blk.cells10 h2⟩
theorem K2.of {w : World} {g : Nat} {n : Nat} {er : Int} {B : Option Addr} {k d : Nat} (h3 : Blk w (g + 1) 31 (oC n 0 er (.slice none 0 0) (.slice B k d))) : K2 g n B k d w := ⟨h3.cell 0, h3.cell 4⟩
set_option maxRecDepth 100000 in
set_option maxHeartbeats 8000000 in
theorem rexec (AC : Option Addr) (cC : Nat) (C : List Int) (AD : Option Addr) (cD : Nat) (D : List Int) (AT : Option Addr) (cT : Nat) (T : List Int) (z : Int) (n : Nat) (w : World)
    (hC : Lies w AC (C.map (.int .u16))) (hD : Lies w AD (D.map (.int .u32))) (hL : Lies w AT (T.map (.int .u32)))
    (hc : C.length ≤ 300) (hf : Fit (m0 C D T)) (ld : D.length ≤ 30) (lt : T.length ≤ 100)
    (hz : z ≤ 1000) (hzn : 0 ≤ z → (n : Int) = z) (hzo : z < 0 → n = 0) :
    Calls Tryd.prog 11 #[.slice AC C.length cC, .slice AD D.length cD, .slice AT T.length cT, .int .i64 z] w (OutEnd (runV n zS (m0 C D T)) true w) := by
  obtain ⟨i0, hi, hz0, hz1, hz2⟩ := info_parts info10
  obtain ⟨j0, hj, hy0, hy1, hy2⟩ := info_parts info32
  obtain ⟨w1, hw1⟩ : ∃ w1, w1 = w.alloc (.cells (oC 0 0 0 (.slice none 0 0) (.slice none 0 0)) 31) := ⟨_, rfl⟩
  have hx1 : Ext w w1 := by rw [hw1]; exact Ext.alloc _ _
  have hf0 : Fit ⟨C, noughts D.length, T, 0, 0⟩ := ⟨hf.c, noughts_in _, hf.t, Nat.zero_le _, ⟨Int.le_refl 0, by show (0 : Int) < 4294967296; decide⟩, hf.cl, by show (noughts D.length).length ≤ 16000; rw [noughts_len]; omega, hf.tl⟩
  have hN := new_n D.length (by omega) AC cC C AT cT T w1 (hx1.lies hC) (hx1.lies hL) hc lt hf0
  have hall := wset_all C D T
  have hnl : (⟨C, noughts D.length, T, 0, 0⟩ : St).W.length = D.length := noughts_len _
  have hwf : ∀ k, k < D.length → 0 ≤ D.getD k 0 ∧ D.getD k 0 < 4294967296 := fun k hk => by
    have : D.getD k 0 = D[k] := by simp [List.getD, List.getElem?_eq_getElem hk]
    rw [this]; exact hf.w _ (List.getElem_mem hk)
  have hR0 : RO.pre [] (runV n zS (m0 C D T)) = runV n zS (m0 C D T) := rfl
  rw [show (⟨C, D, T, 0, 0⟩ : St) = m0 C D T from rfl] at hall
  generalize (⟨C, noughts D.length, T, 0, 0⟩ : St) = M0 at *
  generalize m0 C D T = M at *
  obtain ⟨R, hR2⟩ : ∃ R, runV n zS M = R := ⟨_, rfl⟩
  rw [hR2] at hR0 ⊢
  have HI := Lib.hid hi; have HZ0 := Lib.hid hz0; have HZ1 := Lib.hid hz1; have HZ2 := Lib.hid hz2
  have HJ := Lib.hid hj; have HY0 := Lib.hid hy0; have HY1 := Lib.hid hy1; have HY2 := Lib.hid hy2
  have HW1 := Lib.hid hw1; have HX1 := Lib.hid hx1; have HNEW := Lib.hid hN; have HALL := Lib.hid hall; have HNL := Lib.hid hnl; have HWF := Lib.hid hwf
  have HD := Lib.hid hD; have HLD := Lib.hid ld
  have HR := Lib.hid (show At true [] n zS M 80 R from ⟨Nat.zero_le _, rfl, by rw [List.length_nil, Nat.sub_zero, hR2]; rfl⟩)
  have HZN := Lib.hid hzn; have HZO := Lib.hid hzo
  have hz9 : ¬ (1048576 : Int) < z := by omega
  have HNN := Lib.hid (show n ≤ 1000 by by_cases h : z < 0; (have := hzo h; omega); (have := hzn (by omega); omega))
  clear hi hz0 hz1 hz2 hj hy0 hy1 hy2 hx1 hf0 hN hall hnl hwf hR0 hR2 hC hD hL hc hf ld lt hz hzn hzo
  go_enter Tryd.func11, Tryd.ntmps11
  go_upto_region 1 with fail
  rw [show w.alloc (.cells #[.int .i64 0, .int .i64 0, .int .i64 0, .slice none 0 0, .slice none 0 0] 31) = w1 from hw1.symm]
  clear hw1
  go_wp2_with fail
  refine HNEW.out.mono ?_
  rintro e w2 ⟨h, rfl, hp2, hx2⟩
  have HQ := Lib.hid (tq_new w w1 w2 h M0 HW1.out hp2 hx2)
  clear hp2 hx2 HNEW
  go_upto_region 2 with fail
  change Code.wp _ _ _ _ (w2.alloc (.cells (sC zS) 51))
  generalize w2.alloc (.cells (sC zS) 51) = w3 at *
  generalize w2.heap.size = g at *
  generalize w1.heap.size = n0 at *
  clear HW1 HX1
  go_wp2_with fail
  go_loopw [11] (fun vk wr => ∃ k : Nat, k ≤ D.length ∧ vk = .int .i64 k ∧ Hid (Tq w n0 h g (wset D k M0) wr)) (fun vk _ => D.length - (intOf vk).toNat)
  case atStart => exact ⟨0, by omega, rfl, HQ⟩
  case round =>
    clear HQ
    obtain ⟨k, hk, rfl, HQ⟩ := hrel
    have hlen : (wset D k M0).W.length = D.length := by rw [wset_len]; exact HNL.out
    by_cases hlt : k < D.length
    · have hcell : (D.map (Value.int .u32))[k]? = some (.int .u32 (D.getD k 0)) := by simp [List.getElem?_eq_getElem hlt, List.getD]
      obtain ⟨b, o, rfl, _, hcc⟩ := (HQ.out.e.lies HD.out).at_ hcell
      have e2 := hcc _ _ hcell
      have hzz := HWF.out k hlt
      have hst : wset D (k + 1) M0 = setS (wset D k M0) k (D.getD k 0) := rfl
      generalize D.getD k 0 = zk at *
      generalize wset D k M0 = mk at *
      have HST := Lib.hid hst; have HZZ := Lib.hid hzz; have HLT := Lib.hid hlt; have HLEN := Lib.hid hlen
      obtain ⟨q, hq, hc, hfz⟩ := HQ.out.p.cellW (i := k) (by rw [hlen]; exact hlt)
      have e1 : wr.cell? ⟨h.r, 1, none⟩ = some (.slice (some ⟨q, 0, none⟩) mk.W.length h.cW) := by rw [← hq]; exact HQ.out.p.blk.cell 1
      have hkw : (k : Int) < (mk.W.length : Int) := by rw [hlen]; omega
      have hkd : (k : Int) < (D.length : Int) := by omega
      have hk0 : (0 : Int) ≤ (k : Int) := by omega
      have hk9 : (k : Int) < 1000 := by have := HLD.out; omega
      have HG := Lib.hid hq
      clear hcell hcc hzz hst hlen hq hlt hk
      go_wp2_with fail
      go_still_tail 10, (by kernel_rfl)
      change wpList _ _ _ _ _ wr.drew
      have HQ2 := Lib.hid (HQ.out.set (k := k) (by rw [HLEN.out]; exact HLT.out) HG.out zk HZZ.out)
      have k1 : wr.drew.cell? ⟨q, k, none⟩ = some (.int .u32 (mk.W.getD k 0)) := hc
      have k2 : wr.drew.frozen? ⟨q, k, none⟩ = false := hfz
      clear hc hfz e1 e2 HQ
      generalize wr.drew = w7 at *
      go_wp2_with fail
      go_roundw
      case rel => exact ⟨k + 1, by have := HLT.out; omega, by go_num, by rw [HST.out]; exact HQ2⟩
      case measure => have := HLT.out; simp [intOf]; omega
    · obtain rfl : k = D.length := by omega
      have e1 : wr.cell? ⟨h.r, 1, none⟩ = some (.slice h.AW (wset D D.length M0).W.length h.cW) := HQ.out.p.blk.cell 1
      rw [hlen] at e1
      rw [HALL.out] at HQ
      clear hlt hk hlen HALL HNL HWF
      go_upto_region 9 with fail
      have HT := Lib.hid HQ.out.done
      have hsz := HQ.out.sz
      clear e1 HQ
      change Code.wp _ _ _ _ (wr.alloc (.cells (oC 0 0 80 (.slice none 0 0) (.slice none 0 0)) 31))
      generalize wr.alloc (.cells (oC 0 0 80 (.slice none 0 0) (.slice none 0 0)) 31) = w4 at *
      rw [hsz]
      clear hsz
      go_wp2_with fail
      go_loopw [13] (fun von wr => ∃ (on : Bool) (a : List L) (s : S) (m : St) (er : Int) (B : Option Addr) (d : Nat), von = .bool on ∧ Hid (At on a n s m er R) ∧ Hid (Tr w n0 h g s m a.length er B d a wr)) (fun von wr => left n von (wr.cell? ⟨g + 1, 0, none⟩))
      case atStart => exact ⟨true, [], zS, M, 80, none, 0, rfl, HR, HT⟩
      case round =>
        clear HT HR
        obtain ⟨on, a, s, m, er, B, d, rfl, HA, HTR⟩ := hrel
        have o0 : wr.cell? ⟨g + 1, 0, none⟩ = some (.int .i64 (a.length : Int)) := HTR.out.bo.cell 0
        cases on with
        | false =>
          have hR : R = ⟨a, er, m⟩ := HA.out.2
          subst hR
          have hgr : h.r ≠ g + 1 := by have := (HTR.out.lo h.r (.inl rfl)).2; omega
          have hwl : m.W.length ≤ 16000 := HTR.out.p.fit.wl
          have hgl : g + 1 < wr.heap.size := HTR.out.bo.lt
          have HWL := Lib.hid hwl; have HGL := Lib.hid hgl
          have HLW := Lib.hid (lies_own HTR.out.p.ow)
          have HMB := Lib.hid HTR.out.p.blk
          clear hwl hgl HA HNN HZN HZO o0 HD HLD
          go_wp2_with fail
          have HK0 := Lib.hid (show K7 h m wr from K7.of HMB.out rfl rfl)
          go_region_held3 (fun w' => K7 h m w') ((repeat (first | with_reducible exact HK7.out | with_reducible exact HK0.out | with_reducible refine K7.drew ?_ | with_reducible refine K7.alloc ?_ _ | with_reducible refine K7.far ?_ hgr _ _))) (first
            | (refine step_fresh0 rfl (.tmp 82) (.tmp 86) 23 rfl 36 j0 (.int .u32 0) 1 4 Tryd.underlying23 HJ.out HY0.out HY1.out HY2.out rfl (by decide) _ (by simp [Act.eval]; rfl) h.AW m.W.length h.cW (m.W.map (.int .u32)) (by simp [Act.eval]) (by rw [List.length_map, Nat.mul_one]) (by repeat (first | with_reducible exact HLW.out | with_reducible refine Ext.lies (Ext.drew _) ?_ | with_reducible refine Ext.lies (Ext.alloc _ _) ?_)) (by unfold maxLen; have := HWL.out; omega) (by have := HWL.out; omega) ?_; intro A7 c7 w7 h1 h2 h3 h4; have hx7 : Ext wr w7 := Ext.trans (by repeat (first | with_reducible exact Ext.refl _ | with_reducible refine Ext.trans ?_ (Ext.drew _) | with_reducible refine Ext.trans ?_ (Ext.alloc _ _))) h4; have HT7 := Lib.hid (HTR.out.below hx7); have HK7 := Lib.hid (show K7 h m w7 from K7.of (HMB.out.below hx7 HMB.out.lt) rfl rfl); have HF7 := Lib.hid (HT7.out.lastL (k := m.W.length) (c := c7) h3 (by simp; have := HGL.out; omega) (m.d : Int)); have HQ7 := Lib.hid h1; have HR7 := Lib.hid h2; have o1 : w7.cell? ⟨g + 1, 1, none⟩ = some (.int .i64 0) := HT7.out.bo.cell 1; have p1 := HT7.out.bo.frozen 1; have o3 : w7.cell? ⟨g + 1, 3, none⟩ = some (.slice none 0 0) := HT7.out.bo.cell 3; have p3 := HT7.out.bo.frozen 3; clear h1 h2 h3 h4 hx7))
          all_goals
            generalize (w7.setCell ⟨g + 1, 1, none⟩ (.int .i64 (m.d : Int))).setCell ⟨g + 1, 3, none⟩ (.slice A7 m.W.length c7) = w8 at *
            have HCB := Lib.hid (sl_own (HT7.out.own))
            clear o1 p1 o3 p3 HT7 HK7 HMB HLW HK0 HTR
            have y0 := HF7.out.bo.cell 0; have y1 := HF7.out.bo.cell 1; have y2 := HF7.out.bo.cell 2; have y3 := HF7.out.bo.cell 3; have y4 := HF7.out.bo.cell 4
            have z0 := HF7.out.br.cell 0; have z1 := HF7.out.br.cell 1; have z2 := HF7.out.br.cell 2; have z3 := HF7.out.br.cell 3; have z4 := HF7.out.br.cell 4
            have f0 := HF7.out.br.frozen 0; have f1 := HF7.out.br.frozen 1; have f2 := HF7.out.br.frozen 2; have f3 := HF7.out.br.frozen 3; have f4 := HF7.out.br.frozen 4
            simp at y0 y1 y2 y3 y4 z0 z1 z2 z3 z4
            go_wp2_with fail
            clear y0 y1 y2 y3 y4 z0 z1 z2 z3 z4 f0 f1 f2 f3 f4
            obtain ⟨wf, hwf, hb, hla, hlb, he⟩ := HF7.out.fin
            rw [hwf]
            have y0 := hb.cell 0; have y1 := hb.cell 1; have y2 := hb.cell 2; have y3 := hb.cell 3; have y4 := hb.cell 4
            simp at y0 y1 y2 y3 y4
            obtain ⟨B9, d9, e2, k3, k4, _⟩ := HCB.out
            cases e2
            exact bodyPost_ret (v := .agg (oC a.length m.d er (.slice A7 m.W.length c7) (.slice B a.length d))) (by simp [results, Tryd.results11, go_sem, y0, y1, y2, y3, y4]) rfl ⟨A7, c7, B, d, rfl, hla, hlb, ⟨HQ7.out, HR7.out, k3, k4⟩, he⟩
        | true =>
          by_cases hlt : a.length < n
          · obtain rfl : er = 80 := HA.out.2.1
            have hzl : (a.length : Int) < z := by
              have h1 := HZN.out; have h2 := HZO.out
              by_cases h : z < 0
              · have := h2 h; omega
              · have := h1 (by omega); omega
            rcases hq : leakV s m with ⟨x, l, st, er, m2⟩
            have hst := fun W p => rlstep s n0 h m W p
            rw [hq] at hst
            have HST := Lib.hid hst; have HQ := Lib.hid hq; have HLT := Lib.hid hlt
            clear hst hq hlt
            obtain ⟨n0', n1, n2, n3, n4, n5, n6, n7, n8, n9, n10, n11, n12⟩ := Blk.cells13 HTR.out.bs
            go_wp2_with fail
            refine (HST.out _ HTR.out.p).mono ?_
            rintro e w5 ⟨rfl, hp5, hu5⟩
            have HT5 := Lib.hid (HTR.out.step hp5 hu5)
            have HO0 := Lib.hid o0
            clear n0' n1 n2 n3 n4 n5 n6 n7 n8 n9 n10 n11 n12 hp5 hu5 HTR HST o0
            go_upto_region 12 with fail
            change Code.wp _ _ _ _ ((w5.alloc (.cells (sC x) 51)).alloc (.cells (lC l) 39))
            have hx : Ext w5 ((w5.alloc (.cells (sC x) 51)).alloc (.cells (lC l) 39)) := (Ext.alloc _ _).trans (Ext.alloc _ _)
            have HT6 := Lib.hid (HT5.out.below hx)
            have HX6 := Lib.hid ((Blk.new w5 51 (sC x)).alloc (.cells (lC l) 39))
            have hl6 := Blk.new (w5.alloc (.cells (sC x) 51)) 39 (lC l)
            rw [World.size_alloc] at hl6
            have HL6 := Lib.hid hl6
            have HG := Lib.hid HT5.out.bo.lt
            have hbq : ∀ k, (Value.slice B a.length d).ownBlock = some k → k < w5.heap.size ∧ g + 1 < k := fun k hk => by
              rcases own_form HT5.out.own with ⟨e2, _⟩ | ⟨g2, e2, h3, h4⟩
              · rw [e2] at hk; simp [Value.ownBlock] at hk
              · rw [e2] at hk; simp [Value.ownBlock] at hk; omega
            generalize (w5.alloc (.cells (sC x) 51)).alloc (.cells (lC l) 39) = w6 at *
            generalize w5.heap.size = q at *
            clear hl6 hx HT5
            have HBQ := Lib.hid hbq
            clear hbq
            by_cases he : er = 0
            · subst he
              have hgq : g + 1 < q := HG.out
              have nq1 : q ≠ g := by omega
              have nq2 : q ≠ g + 1 := by omega
              have nq3 : q + 1 ≠ g := by omega
              have nq4 : q + 1 ≠ g + 1 := by omega
              have hHLI : Lies (w6.alloc (.cells (lC l) 39)) (some ⟨w6.heap.size, 0, none⟩) (lcl l) := fun j v hj => ⟨_, rfl, by
                rw [Args.add_plain, Nat.zero_add, World.cell?_alloc_at _ _ _ _ rfl]
                simpa [lcl] using hj⟩
              have HLI := Lib.hid hHLI
              have hb1 : a.length + 1 ≤ maxLen := by have := HLT.out; have := HNN.out; unfold maxLen; omega
              have hb2 : (a.length + 1) * 36 ≤ 140737488355328 := by have := HLT.out; have := HNN.out; omega
              have hb3 : g + 1 + 1 ≤ w6.heap.size := by have := HL6.out.lt; omega
              have HM1 := Lib.hid hb1; have HM2 := Lib.hid hb2; have HM3 := Lib.hid hb3
              have hk9 : (a.length : Int) < 10000 := by have := HLT.out; have := HNN.out; omega
              have o0 : w6.cell? ⟨g + 1, 0, none⟩ = some (.int .i64 (a.length : Int)) := HT6.out.bo.cell 0
              have o4 : w6.cell? ⟨g + 1, 4, none⟩ = some (.slice B a.length d) := HT6.out.bo.cell 4
              clear hHLI hb1 hb2 hb3 hgq
              go_upto_region 14 with fail
              have nq5 : g + 1 ≠ g := by omega
              have hZ0 : K24 q x l w6.drew := K24.of HX6.out.drew HL6.out.drew
              have hS0 : K2 g a.length B a.length d w6.drew := K2.of HT6.out.bo.drew
              refine HT.wp_region (Z := fun w' => K24 q x l w') (S := fun w' => K2 g a.length B a.length d w') (st := [11, 13]) (by kernel_rfl) ?_
              refine HT.takeP (i := 0) (v := ?_) rfl (by kernel_rfl) (by kernel_rfl) (by kernel_rfl) (by kernel_rfl) (fun _ _ _ h => h) (Or.inl ⟨by rfl, ?_⟩) hZ0 (fun _ => hS0) ?_
              rotate_left
              · (intro w hSw; (try dsimp only at hSw); go_simp; try with_reducible rfl)
              (try simp only [Act.put, List.getElem_toArray, List.getElem_cons_succ, List.getElem_cons_zero, List.setIfInBounds_toArray, List.set_cons_zero, List.set_cons_succ])
              refine HT.takeP (i := 1) (v := ?_) rfl (by kernel_rfl) (by kernel_rfl) (by kernel_rfl) (by kernel_rfl) (fun _ _ _ h => h) (Or.inl ⟨by rfl, ?_⟩) hZ0 (fun _ => hS0) ?_
              rotate_left
              · (intro w hSw; (try dsimp only at hSw); go_simp; try with_reducible rfl)
              (try simp only [Act.put, List.getElem_toArray, List.getElem_cons_succ, List.getElem_cons_zero, List.setIfInBounds_toArray, List.set_cons_zero, List.set_cons_succ])
              refine HT.take (i := 2) (v := ?_) rfl (by kernel_rfl) (by kernel_rfl) (by kernel_rfl) (by kernel_rfl) (by kernel_rfl) (by kernel_rfl) (fun _ _ _ h => h) (Or.inl ⟨by rfl, ?_⟩) hZ0 hS0 ?_
              rotate_left
              · (intro w hSw; (try dsimp only at hSw); go_simp; try with_reducible rfl)
              (try simp only [Act.put, List.getElem_toArray, List.getElem_cons_succ, List.getElem_cons_zero, List.setIfInBounds_toArray, List.set_cons_zero, List.set_cons_succ])
              refine HT.takeP (i := 3) (v := ?_) rfl (by kernel_rfl) (by kernel_rfl) (by kernel_rfl) (by kernel_rfl) (fun _ _ _ h => h) (Or.inl ⟨by rfl, ?_⟩) hZ0 (fun _ => hS0) ?_
              rotate_left
              · (intro w hSw; (try dsimp only at hSw); go_simp; try with_reducible rfl)
              (try simp only [Act.put, List.getElem_toArray, List.getElem_cons_succ, List.getElem_cons_zero, List.setIfInBounds_toArray, List.set_cons_zero, List.set_cons_succ])
              refine HT.takeP (i := 4) (v := ?_) rfl (by kernel_rfl) (by kernel_rfl) (by kernel_rfl) (by kernel_rfl) (fun _ _ _ h => h) (Or.inl ⟨by rfl, ?_⟩) hZ0 (fun _ => hS0) ?_
              rotate_left
              · (intro w hSw; (try dsimp only at hSw); go_simp; try with_reducible rfl)
              (try simp only [Act.put, List.getElem_toArray, List.getElem_cons_succ, List.getElem_cons_zero, List.setIfInBounds_toArray, List.set_cons_zero, List.set_cons_succ])
              refine HT.take (i := 5) (v := ?_) rfl (by kernel_rfl) (by kernel_rfl) (by kernel_rfl) (by kernel_rfl) (by kernel_rfl) (by kernel_rfl) (fun _ _ _ h => h) (Or.inl ⟨by rfl, ?_⟩) hZ0 hS0 ?_
              rotate_left
              · (intro w hSw; (try dsimp only at hSw); go_simp; try with_reducible rfl)
              (try simp only [Act.put, List.getElem_toArray, List.getElem_cons_succ, List.getElem_cons_zero, List.setIfInBounds_toArray, List.set_cons_zero, List.set_cons_succ])
              refine HT.takeP (i := 6) (v := ?_) rfl (by kernel_rfl) (by kernel_rfl) (by kernel_rfl) (by kernel_rfl) (fun _ _ _ h => h) (Or.inl ⟨by rfl, ?_⟩) hZ0 (fun _ => hS0) ?_
              rotate_left
              · (intro w hSw; (try dsimp only at hSw); go_simp; try with_reducible rfl)
              (try simp only [Act.put, List.getElem_toArray, List.getElem_cons_succ, List.getElem_cons_zero, List.setIfInBounds_toArray, List.set_cons_zero, List.set_cons_succ])
              refine HT.one (i := 7) (by kernel_rfl) rfl (fun K hK => ?_)
              go_simp
              refine hK.out _ _ (K24.of (by repeat (first | with_reducible exact HX6.out | with_reducible exact HX7.out | with_reducible apply Blk.drew | with_reducible apply Blk.alloc | with_reducible refine Blk.far ?_ (by first | exact nq1 | exact nq2 | exact nq3 | exact nq4 | exact nq5) _)) (by repeat (first | with_reducible exact HL6.out | with_reducible exact HL7.out | with_reducible apply Blk.drew | with_reducible apply Blk.alloc | with_reducible refine Blk.far ?_ (by first | exact nq1 | exact nq2 | exact nq3 | exact nq4 | exact nq5) _))) (K2.of (by repeat (first | with_reducible exact HT6.out.bo | with_reducible exact HBO7.out | with_reducible apply Blk.drew | with_reducible apply Blk.alloc | with_reducible refine Blk.far ?_ (by first | exact nq1 | exact nq2 | exact nq3 | exact nq4 | exact nq5) _))) ?_
              clear hK K
              (try simp only [Act.put, List.getElem_toArray, List.getElem_cons_succ, List.getElem_cons_zero, List.setIfInBounds_toArray, List.set_cons_zero, List.set_cons_succ])
              refine HT.one (i := 8) (by kernel_rfl) rfl (fun K hK => ?_)
              refine step_fresh rfl (.tmp 70) (.tmp 72) 29 rfl (g + 1 + 1) 39 i0 (lv zL) 10 36 Tryd.underlying29 HI.out HZ0.out HZ1.out HZ2.out rfl (by decide) (.slice B a.length d) a.length (a.flatMap lcl) (by simp [Act.eval]) (by repeat (first | with_reducible exact HT6.out.own | with_reducible refine World.ownsRow.drew ?_ | with_reducible refine World.ownsRow.alloc ?_ _)) (some ⟨w6.heap.size, 0, none⟩) 1 1 (lcl l) (by simp [Act.eval]) rfl (by repeat (first | with_reducible exact HLI.out | with_reducible refine Ext.lies (Ext.drew _) ?_)) (lcl_one l) HM1.out HM2.out (by simp; have := HM3.out; omega) ?_
              intro B' d' w7 h2 h3 h4 h5
              have HX7 := Lib.hid (blk_g h5 (by repeat (first | with_reducible exact HX6.out | with_reducible apply Blk.drew | with_reducible apply Blk.alloc | with_reducible refine Blk.far ?_ (by first | exact nq1 | exact nq2 | exact nq3 | exact nq4 | exact nq5) _)) (fun k hk => by have := HBQ.out k hk; omega))
              have HL7 := Lib.hid (blk_g h5 (by repeat (first | with_reducible exact HL6.out | with_reducible apply Blk.drew | with_reducible apply Blk.alloc | with_reducible refine Blk.far ?_ (by first | exact nq1 | exact nq2 | exact nq3 | exact nq4 | exact nq5) _)) (fun k hk => by have := HBQ.out k hk; omega))
              have hbs := blk_g h5 (by repeat (first | with_reducible exact HT6.out.bs | with_reducible apply Blk.drew | with_reducible apply Blk.alloc | with_reducible refine Blk.far ?_ (by first | exact nq1 | exact nq2 | exact nq3 | exact nq4 | exact nq5) _)) (fun k hk => by have := HBQ.out k hk; omega)
              have HBO7 := Lib.hid (blk_g h5 (by repeat (first | with_reducible exact HT6.out.bo | with_reducible apply Blk.drew | with_reducible apply Blk.alloc | with_reducible refine Blk.far ?_ (by first | exact nq1 | exact nq2 | exact nq3 | exact nq4 | exact nq5) _)) (fun k hk => by have := HBQ.out k hk; omega))
              have hN := Tr.next (show Tr w n0 h g s m2 a.length 80 B d a _ from HT6.out.below (by repeat (first | with_reducible exact Ext.refl _ | with_reducible refine Ext.trans ?_ (Ext.drew _) | with_reducible refine Ext.trans ?_ (Ext.alloc _ _)))) h5 h4 x
              have HN := Lib.hid hN
              refine hK.out _ _ (K24.of (by repeat (first | with_reducible exact HX6.out | with_reducible exact HX7.out | with_reducible apply Blk.drew | with_reducible apply Blk.alloc | with_reducible refine Blk.far ?_ (by first | exact nq1 | exact nq2 | exact nq3 | exact nq4 | exact nq5) _)) (by repeat (first | with_reducible exact HL6.out | with_reducible exact HL7.out | with_reducible apply Blk.drew | with_reducible apply Blk.alloc | with_reducible refine Blk.far ?_ (by first | exact nq1 | exact nq2 | exact nq3 | exact nq4 | exact nq5) _))) (K2.of (by repeat (first | with_reducible exact HT6.out.bo | with_reducible exact HBO7.out | with_reducible apply Blk.drew | with_reducible apply Blk.alloc | with_reducible refine Blk.far ?_ (by first | exact nq1 | exact nq2 | exact nq3 | exact nq4 | exact nq5) _))) ?_
              clear hK K hZ0 hS0 o0 o4 hN
              have hZ0 := K24.of HX7.out HL7.out
              have hS0 := K2.of HBO7.out
              have o74 : w7.cell? ⟨g + 1, 4, none⟩ = some (.slice B a.length d) := HBO7.out.cell 4
              have p70 := HBO7.out.frozen 0
              have p74 := HBO7.out.frozen 4
              have o70 : w7.cell? ⟨g + 1, 0, none⟩ = some (.int .i64 (a.length : Int)) := HBO7.out.cell 0
              obtain ⟨z0, z1, z2, z3, z4, z5, z6, z7, z8, z9, z10, z11, z12⟩ := Blk.cells13 hbs
              obtain ⟨f0, f1, f2, f3, f4, f5, f6, f7, f8, f9, f10, f11, f12⟩ := Blk.frozen13 hbs
              clear h2 h3 h4 h5 hbs
              (try simp only [Act.put, List.getElem_toArray, List.getElem_cons_succ, List.getElem_cons_zero, List.setIfInBounds_toArray, List.set_cons_zero, List.set_cons_succ])
              refine HT.one (i := 9) (by kernel_rfl) rfl (fun K hK => ?_)
              go_simp
              refine hK.out _ _ (K24.of (by repeat (first | with_reducible exact HX6.out | with_reducible exact HX7.out | with_reducible apply Blk.drew | with_reducible apply Blk.alloc | with_reducible refine Blk.far ?_ (by first | exact nq1 | exact nq2 | exact nq3 | exact nq4 | exact nq5) _)) (by repeat (first | with_reducible exact HL6.out | with_reducible exact HL7.out | with_reducible apply Blk.drew | with_reducible apply Blk.alloc | with_reducible refine Blk.far ?_ (by first | exact nq1 | exact nq2 | exact nq3 | exact nq4 | exact nq5) _))) (K2.of (by repeat (first | with_reducible exact HT6.out.bo | with_reducible exact HBO7.out | with_reducible apply Blk.drew | with_reducible apply Blk.alloc | with_reducible refine Blk.far ?_ (by first | exact nq1 | exact nq2 | exact nq3 | exact nq4 | exact nq5) _))) ?_
              clear hK K hZ0 hS0
              (try simp only [Act.put, List.getElem_toArray, List.getElem_cons_succ, List.getElem_cons_zero, List.setIfInBounds_toArray, List.set_cons_zero, List.set_cons_succ])
              refine HT.one (i := 10) (by kernel_rfl) rfl (fun K hK => ?_)
              go_simp
              refine hK.out _ _ (K24.of (by repeat (first | with_reducible exact HX6.out | with_reducible exact HX7.out | with_reducible apply Blk.drew | with_reducible apply Blk.alloc | with_reducible refine Blk.far ?_ (by first | exact nq1 | exact nq2 | exact nq3 | exact nq4 | exact nq5) _)) (by repeat (first | with_reducible exact HL6.out | with_reducible exact HL7.out | with_reducible apply Blk.drew | with_reducible apply Blk.alloc | with_reducible refine Blk.far ?_ (by first | exact nq1 | exact nq2 | exact nq3 | exact nq4 | exact nq5) _))) (K2.of (by repeat (first | with_reducible exact HT6.out.bo | with_reducible exact HBO7.out | with_reducible apply Blk.drew | with_reducible apply Blk.alloc | with_reducible refine Blk.far ?_ (by first | exact nq1 | exact nq2 | exact nq3 | exact nq4 | exact nq5) _))) ?_
              clear hK K
              (try simp only [Act.put, List.getElem_toArray, List.getElem_cons_succ, List.getElem_cons_zero, List.setIfInBounds_toArray, List.set_cons_zero, List.set_cons_succ])
              refine HT.oneS (i := 11) (by kernel_rfl) (by kernel_rfl) rfl (fun K hK => ?_)
              go_simp
              refine hK.out _ _ (K24.of (by repeat (first | with_reducible exact HX6.out | with_reducible exact HX7.out | with_reducible apply Blk.drew | with_reducible apply Blk.alloc | with_reducible refine Blk.far ?_ (by first | exact nq1 | exact nq2 | exact nq3 | exact nq4 | exact nq5) _)) (by repeat (first | with_reducible exact HL6.out | with_reducible exact HL7.out | with_reducible apply Blk.drew | with_reducible apply Blk.alloc | with_reducible refine Blk.far ?_ (by first | exact nq1 | exact nq2 | exact nq3 | exact nq4 | exact nq5) _))) ?_
              clear hK K
              (try simp only [Act.put, List.getElem_toArray, List.getElem_cons_succ, List.getElem_cons_zero, List.setIfInBounds_toArray, List.set_cons_zero, List.set_cons_succ])
              refine HT.oneS (i := 12) (by kernel_rfl) (by kernel_rfl) rfl (fun K hK => ?_)
              go_simp
              refine hK.out _ _ (K24.of (by repeat (first | with_reducible exact HX6.out | with_reducible exact HX7.out | with_reducible apply Blk.drew | with_reducible apply Blk.alloc | with_reducible refine Blk.far ?_ (by first | exact nq1 | exact nq2 | exact nq3 | exact nq4 | exact nq5) _)) (by repeat (first | with_reducible exact HL6.out | with_reducible exact HL7.out | with_reducible apply Blk.drew | with_reducible apply Blk.alloc | with_reducible refine Blk.far ?_ (by first | exact nq1 | exact nq2 | exact nq3 | exact nq4 | exact nq5) _))) ?_
              clear hK K
              (try simp only [Act.put, List.getElem_toArray, List.getElem_cons_succ, List.getElem_cons_zero, List.setIfInBounds_toArray, List.set_cons_zero, List.set_cons_succ])
              refine HT.oneS (i := 13) (by kernel_rfl) (by kernel_rfl) rfl (fun K hK => ?_)
              go_simp
              refine hK.out _ _ (K24.of (by repeat (first | with_reducible exact HX6.out | with_reducible exact HX7.out | with_reducible apply Blk.drew | with_reducible apply Blk.alloc | with_reducible refine Blk.far ?_ (by first | exact nq1 | exact nq2 | exact nq3 | exact nq4 | exact nq5) _)) (by repeat (first | with_reducible exact HL6.out | with_reducible exact HL7.out | with_reducible apply Blk.drew | with_reducible apply Blk.alloc | with_reducible refine Blk.far ?_ (by first | exact nq1 | exact nq2 | exact nq3 | exact nq4 | exact nq5) _))) ?_
              clear hK K
              (try simp only [Act.put, List.getElem_toArray, List.getElem_cons_succ, List.getElem_cons_zero, List.setIfInBounds_toArray, List.set_cons_zero, List.set_cons_succ])
              refine HT.done (by kernel_rfl) ?_
              dsimp only [Exit.then]
              obtain ⟨w8, hw8⟩ : ∃ w8, ((put13 w7 g x).setCell ⟨g + 1, 0, none⟩ (.int .i64 ((a.length : Int) + 1))).setCell ⟨g + 1, 4, none⟩ (.slice B' (a.length + 1) d') = w8 := ⟨_, rfl⟩
              have HT8 := Lib.hid (show Tr w n0 h g x m2 (a.length + 1) 80 B' d' (a ++ [l]) w8 from hw8 ▸ HN.out)
              simp only [put13] at hw8
              rw [show IntKind.i64.wrap ((a.length : Int) + 1) = (a.length : Int) + 1 from by rw [IntKind.wrap_i64]; omega]
              rw [hw8]
              clear hw8 HN z0 z1 z2 z3 z4 z5 z6 z7 z8 z9 z10 z11 z12 f0 f1 f2 f3 f4 f5 f6 f7 f8 f9 f10 f11 f12 o74 p70 p74 o70 HX7 HL7 HBO7 HX6 HL6 HT6
              have o80 : w8.cell? ⟨g + 1, 0, none⟩ = some (.int .i64 ((a.length : Int) + 1)) := HT8.out.bo.cell 0
              have hlen : (a ++ [l]).length = a.length + 1 := by rw [List.length_append]; rfl
              have HLEN := Lib.hid hlen
              clear hlen
              cases st
              · have HAO := Lib.hid (HA.out.on HLT.out HQ.out)
                go_wp2_with fail
                go_roundw
                case rel => exact ⟨true, a ++ [l], x, m2, 80, B', d', rfl, HAO, by rw [HLEN.out]; exact HT8⟩
                case measure => rw [HO0.out, o80]; have := HLT.out; simp [left, intOf]; omega
              · have HAO := Lib.hid (HA.out.stop HLT.out HQ.out)
                have o82 : w8.cell? ⟨g + 1, 2, none⟩ = some (.int .i64 80) := HT8.out.bo.cell 2
                have p82 := HT8.out.bo.frozen 2
                have HT9 := Lib.hid (HT8.out.set (n' := a.length + 1) (er' := 0) 2 (.int .i64 0) rfl)
                have o90 : (w8.setCell ⟨g + 1, 2, none⟩ (.int .i64 0)).cell? ⟨g + 1, 0, none⟩ = some (.int .i64 ((a.length : Int) + 1)) := HT9.out.bo.cell 0
                go_wp2_with fail
                go_roundw
                case rel => exact ⟨false, a ++ [l], x, m2, 0, B', d', rfl, HAO, by rw [HLEN.out]; exact HT9⟩
                case measure => rw [HO0.out, o90]; have := HLT.out; simp [left, intOf]; omega
            · have he2 : (er != 0) = true := by simpa using he
              have hfail := HA.out.fail HLT.out HQ.out he
              have HF := Lib.hid hfail
              have o2 : w6.cell? ⟨g + 1, 2, none⟩ = some (.int .i64 80) := HT6.out.bo.cell 2
              have p2 := HT6.out.bo.frozen 2
              clear hfail he HA HQ
              have HT7 := Lib.hid (HT6.out.set (n' := a.length) (er' := er) 2 (.int .i64 er) rfl)
              have o9 : (w6.setCell ⟨g + 1, 2, none⟩ (.int .i64 er)).cell? ⟨g + 1, 0, none⟩ = some (.int .i64 (a.length : Int)) := HT7.out.bo.cell 0
              go_wp2_with fail
              go_roundw
              case rel => exact ⟨false, a, s, m2, er, B, d, rfl, HF, HT7⟩
              case measure => rw [HO0.out, o9]; simp [left, intOf]
          · obtain rfl : er = 80 := HA.out.2.1
            have hzl : decide ((a.length : Int) < z) = false := by
              have h1 := HZN.out; have h3 := HNN.out
              simp only [decide_eq_false_iff_not]
              intro h
              have := h1 (by omega); omega
            have hzl2 : ¬ (a.length : Int) < z := by simpa using hzl
            have hR : R = ⟨a, 80, m⟩ := HA.out.out hlt
            subst hR
            have hgr : h.r ≠ g + 1 := by have := (HTR.out.lo h.r (.inl rfl)).2; omega
            have hwl : m.W.length ≤ 16000 := HTR.out.p.fit.wl
            have hgl : g + 1 < wr.heap.size := HTR.out.bo.lt
            have HWL := Lib.hid hwl; have HGL := Lib.hid hgl
            have HLW := Lib.hid (lies_own HTR.out.p.ow)
            have HMB := Lib.hid HTR.out.p.blk
            clear hwl hgl HA HNN HZN HZO HD HLD
            go_wp2_with fail
            have HK0 := Lib.hid (show K7 h m wr from K7.of HMB.out rfl rfl)
            go_region_held3 (fun w' => K7 h m w') ((repeat (first | with_reducible exact HK7.out | with_reducible exact HK0.out | with_reducible refine K7.drew ?_ | with_reducible refine K7.alloc ?_ _ | with_reducible refine K7.far ?_ hgr _ _))) (first
              | (refine step_fresh0 rfl (.tmp 82) (.tmp 86) 23 rfl 36 j0 (.int .u32 0) 1 4 Tryd.underlying23 HJ.out HY0.out HY1.out HY2.out rfl (by decide) _ (by simp [Act.eval]; rfl) h.AW m.W.length h.cW (m.W.map (.int .u32)) (by simp [Act.eval]) (by rw [List.length_map, Nat.mul_one]) (by repeat (first | with_reducible exact HLW.out | with_reducible refine Ext.lies (Ext.drew _) ?_ | with_reducible refine Ext.lies (Ext.alloc _ _) ?_)) (by unfold maxLen; have := HWL.out; omega) (by have := HWL.out; omega) ?_; intro A7 c7 w7 h1 h2 h3 h4; have hx7 : Ext wr w7 := Ext.trans (by repeat (first | with_reducible exact Ext.refl _ | with_reducible refine Ext.trans ?_ (Ext.drew _) | with_reducible refine Ext.trans ?_ (Ext.alloc _ _))) h4; have HT7 := Lib.hid (HTR.out.below hx7); have HK7 := Lib.hid (show K7 h m w7 from K7.of (HMB.out.below hx7 HMB.out.lt) rfl rfl); have HF7 := Lib.hid (HT7.out.lastL (k := m.W.length) (c := c7) h3 (by simp; have := HGL.out; omega) (m.d : Int)); have HQ7 := Lib.hid h1; have HR7 := Lib.hid h2; have o1 : w7.cell? ⟨g + 1, 1, none⟩ = some (.int .i64 0) := HT7.out.bo.cell 1; have p1 := HT7.out.bo.frozen 1; have o3 : w7.cell? ⟨g + 1, 3, none⟩ = some (.slice none 0 0) := HT7.out.bo.cell 3; have p3 := HT7.out.bo.frozen 3; clear h1 h2 h3 h4 hx7))
            all_goals
              generalize (w7.setCell ⟨g + 1, 1, none⟩ (.int .i64 (m.d : Int))).setCell ⟨g + 1, 3, none⟩ (.slice A7 m.W.length c7) = w8 at *
              have HCB := Lib.hid (sl_own (HT7.out.own))
              clear o1 p1 o3 p3 HT7 HK7 HMB HLW HK0 HTR
              have y0 := HF7.out.bo.cell 0; have y1 := HF7.out.bo.cell 1; have y2 := HF7.out.bo.cell 2; have y3 := HF7.out.bo.cell 3; have y4 := HF7.out.bo.cell 4
              have z0 := HF7.out.br.cell 0; have z1 := HF7.out.br.cell 1; have z2 := HF7.out.br.cell 2; have z3 := HF7.out.br.cell 3; have z4 := HF7.out.br.cell 4
              have f0 := HF7.out.br.frozen 0; have f1 := HF7.out.br.frozen 1; have f2 := HF7.out.br.frozen 2; have f3 := HF7.out.br.frozen 3; have f4 := HF7.out.br.frozen 4
              simp at y0 y1 y2 y3 y4 z0 z1 z2 z3 z4
              go_wp2_with fail
              clear y0 y1 y2 y3 y4 z0 z1 z2 z3 z4 f0 f1 f2 f3 f4
              obtain ⟨wf, hwf, hb, hla, hlb, he⟩ := HF7.out.fin
              rw [hwf]
              have y0 := hb.cell 0; have y1 := hb.cell 1; have y2 := hb.cell 2; have y3 := hb.cell 3; have y4 := hb.cell 4
              simp at y0 y1 y2 y3 y4
              obtain ⟨B9, d9, e2, k3, k4, _⟩ := HCB.out
              cases e2
              exact bodyPost_ret (v := .agg (oC a.length m.d 80 (.slice A7 m.W.length c7) (.slice B a.length d))) (by simp [results, Tryd.results11, go_sem, y0, y1, y2, y3, y4]) rfl ⟨A7, c7, B, d, rfl, hla, hlb, ⟨HQ7.out, HR7.out, k3, k4⟩, he⟩
end Go.Proofs.YtkafmpdjpjgkgaaDoor.Rn
