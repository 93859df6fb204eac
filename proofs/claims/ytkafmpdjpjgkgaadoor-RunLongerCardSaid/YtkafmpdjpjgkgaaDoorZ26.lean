/- DERIVED. RnThr, RnThw, RnEx in one text. By an AI agent. -/
import Derived.Test.YtkafmpdjpjgkgaaDoorZ22
import Derived.Test.YtkafmpdjpjgkgaaDoorZ25
import Derived.Deep.DeepCutAuto
import Derived.Deep.CutBlock
/- DERIVED. The contract of run's through: code that runs to its end. By an AI agent. -/
namespace Go.Proofs.YtkafmpdjpjgkgaaDoor.Rn
open Go.ChangeShapes Go.WideShapes Go.ChangeAt Go.RowKit WMath Word Args Mm Co Lk
set_option linter.unusedVariables false
set_option linter.unusedSimpArgs false
abbrev lcl (l : L) : List Value := (lC l).toList
def tl : Bool → List L → List L
  | true, a => a
  | false, _ => []
theorem info10 : (Tryd.prog.info? 39).map (fun i => (i.zero, i.size, i.bytes)) = some (some (lv zL), 10, 36) := by kernel_rfl
theorem lcl_one (l : L) : ∀ u ∈ lcl l, u.oneCell' = true := fun v hv => by
  simp [lcl] at hv
  rcases hv with rfl | rfl | rfl | rfl | rfl | rfl | rfl | rfl | rfl | rfl <;> rfl
abbrev oC (n d : Int) (er : Int) (x y : Value) : Array Value := #[.int .i64 n, .int .i64 d, .int .i64 er, x, y]
/-- What a run comes to, as it is handed over. -/
def OutEnd (r : RO) (t : Bool) (w : World) (e : Ending) (w' : World) : Prop :=
  ∃ A c B d, e = .returned (.agg (oC r.ls.length r.m.d r.er (.slice A r.m.W.length c) (.slice B (tl t r.ls).length d))) ∧
    Liv w.heap.size w' A (r.m.W.map (.int .u32)) ∧ Liv w.heap.size w' B ((tl t r.ls).flatMap lcl) ∧ (r.m.W.length ≤ c ∧ c ≤ maxLen ∧ (tl t r.ls).length ≤ d ∧ d ≤ maxLen) ∧ Ext w w'
/-- The loop's boxes. -/
structure Tl (w : World) (n0 : Nat) (h : Hd) (g : Nat) (s : S) (m : St) (n : Nat) (er : Int) (B : Option Addr) (d : Nat) (a : List L) (wr : World) : Prop where
  bs : Blk wr g 51 (sC s)
  bo : Blk wr (g + 1) 31 (oC n 0 er (.slice none 0 0) (.slice B a.length d))
  br : Blk wr w.heap.size 31 (oC 0 0 0 (.slice none 0 0) (.slice none 0 0))
  own : wr.ownsRow (g + 1 + 1) 39 10 (.slice B a.length d) a.length (a.flatMap lcl)
  p : PP n0 h m wr
  e : Ext w wr
  hB : ∀ k, h.B k → k < g
  l0 : w.heap.size < n0
  l1 : n0 ≤ g
section
variable {w w1 w2 : World} {n0 : Nat} {h : Hd} {g : Nat} {s s' : S} {m m' : St} {n : Nat} {er : Int} {B : Option Addr} {d : Nat} {a : List L}
theorem Tl.lo (t : Tl w n0 h g s m n er B d a w1) : ∀ k, h.B k → n0 ≤ k ∧ k < g := fun k hk => ⟨(t.p.lt hk).1, t.hB k hk⟩
theorem Tl.upd {X : Nat → Prop} (t : Tl w n0 h g s m n er B d a w1) (p : PP n0 h m' w2) (hu : Upd X w1 w2) (hX : ∀ k, X k → n0 ≤ k ∧ k < g ∨ g + 1 < k ∧ B ≠ some ⟨k, 0, none⟩) : Tl w n0 h g s m' n er B d a w2 :=
  have l0 := t.l0; have l1 := t.l1
  ⟨t.bs.upd hu (fun q => by have := hX _ q; omega), t.bo.upd hu (fun q => by have := hX _ q; omega), t.br.upd hu (fun q => by have := hX _ q; omega),
    Mm.own_upd t.own hu (fun k e q => by
      rcases hX k q with h1 | h1
      · rcases own_form t.own with ⟨e2, _⟩ | ⟨g2, e2, h3, _⟩
        · rw [e2] at e; cases e
        · rw [e2] at e; cases e; omega
      · exact h1.2 e), p, Below.trans t.e (hu.below (Below.size t.e) fun k q => by have := hX k q; omega), t.hB, l0, l1⟩
theorem Tl.step (t : Tl w n0 h g s m n er B d a w1) (p : PP n0 h m' w2) (hu : Upd h.X w1 w2) : Tl w n0 h g s m' n er B d a w2 := t.upd p hu fun k q => .inl (t.lo k (Hd.XB q))
theorem Tl.below (t : Tl w n0 h g s m n er B d a w1) (hb : Ext w1 w2) : Tl w n0 h g s m n er B d a w2 := t.upd (t.p.below hb) (Upd.of_below hb fun _ => False) fun _ q => q.elim
theorem Tl.put (t : Tl w n0 h g s m n er B d a w1) (x : S) : Tl w n0 h g x m n er B d a (put13 w1 g x) := by
  obtain ⟨h1, h2⟩ := blk13 t.bs x
  have l0 := t.l0; have l1 := t.l1
  exact ⟨h1, t.bo.upd h2 (by omega), t.br.upd h2 (by omega), Mm.own_upd t.own h2 (fun k e q => by
      rcases own_form t.own with ⟨e2, _⟩ | ⟨g2, e2, h3, _⟩
      · rw [e2] at e; cases e
      · rw [e2] at e; cases e; omega), t.p.upd h2 (fun k hk q => by have := t.lo k hk; omega), Below.trans t.e (h2.below (Below.size t.e) fun k q => by omega), t.hB, l0, l1⟩
theorem Tl.set (t : Tl w n0 h g s m n er B d a w1) {n' : Nat} {er' : Int} (i : Nat) (v : Value) (hc : (oC n 0 er (.slice none 0 0) (.slice B a.length d)).setIfInBounds i v = oC n' 0 er' (.slice none 0 0) (.slice B a.length d)) : Tl w n0 h g s m n' er' B d a (w1.setCell ⟨g + 1, i, none⟩ v) := by
  have hu : Upd (· = g + 1) w1 (w1.setCell ⟨g + 1, i, none⟩ v) := upd_set w1 _ i v (Upd.refl _ w1)
  have l0 := t.l0; have l1 := t.l1
  exact ⟨t.bs.upd hu (by omega), hc ▸ t.bo.set i v, t.br.upd hu (by omega), Mm.own_upd t.own hu (fun k e q => by
      rcases own_form t.own with ⟨e2, _⟩ | ⟨g2, e2, h3, _⟩
      · rw [e2] at e; cases e
      · rw [e2] at e; cases e; omega), t.p.upd hu (fun k hk q => by have := t.lo k hk; omega), Below.trans t.e (hu.below (Below.size t.e) fun k q => by omega), t.hB, l0, l1⟩
theorem Tl.grown_bo (t : Tl w n0 h g s m n er B d a w1) (hg : w1.grownBy w2 (Value.slice B a.length d).ownBlock) : Blk w2 (g + 1) 31 (oC n 0 er (.slice none 0 0) (.slice B a.length d)) := by
  refine (hg.block (g + 1) t.bo.lt fun e => ?_).trans t.bo
  rcases own_form t.own with ⟨e2, _⟩ | ⟨g2, e2, h3, _⟩
  · rw [e2] at e; simp [Value.ownBlock] at e
  · rw [e2] at e; simp [Value.ownBlock] at e; omega
/-- A leak is appended. -/
theorem Tl.app (t : Tl w n0 h g s m n er B d a w1) {l : L} {B' : Option Addr} {d' : Nat} (hg : w1.grownBy w2 (Value.slice B a.length d).ownBlock) (ho : w2.ownsRow (g + 1 + 1) 39 10 (.slice B' (a.length + 1) d') (a.length + 1) (a.flatMap lcl ++ lcl l)) :
    Tl w n0 h g s m n er B' d' (a ++ [l]) (w2.setCell ⟨g + 1, 4, none⟩ (.slice B' (a.length + 1) d')) := by
  have l0 := t.l0; have l1 := t.l1
  have hq : ∀ k, some k = (Value.slice B a.length d).ownBlock → g + 1 < k := fun k e => by
    rcases own_form t.own with ⟨e2, _⟩ | ⟨g2, e2, h3, _⟩
    · rw [e2] at e; simp [Value.ownBlock] at e
    · rw [e2] at e; simp [Value.ownBlock] at e; omega
  have hu : Upd (fun k => some k = (Value.slice B a.length d).ownBlock) w1 w2 := (Upd.refl _ w1).grown hg fun k e _ => e.symm
  have p2 := t.p.upd hu (fun k hk q => by have := hq k q; have := t.lo k hk; omega)
  have hs : Upd (· = g + 1) w2 (w2.setCell ⟨g + 1, 4, none⟩ (.slice B' (a.length + 1) d')) := upd_set w2 _ 4 _ (Upd.refl _ w2)
  have hlen : (a ++ [l]).length = a.length + 1 := by simp
  refine ⟨(t.bs.upd hu (fun q => by have := hq _ q; omega)).upd hs (by omega), ?_, (t.br.upd hu (fun q => by have := hq _ q; omega)).upd hs (by omega), ?_, p2.upd hs (fun k hk q => by have := t.lo k hk; omega), ?_, t.hB, l0, l1⟩
  · rw [hlen]
    exact (t.bo.upd hu (fun q => by have := hq _ q; omega)).set 4 _
  · rw [hlen, List.flatMap_append, show [l].flatMap lcl = lcl l from by simp]
    refine Mm.own_upd ho hs (fun k e q => ?_)
    rcases own_form ho with ⟨e2, _⟩ | ⟨g2, e2, h3, _⟩
    · rw [e2] at e; cases e
    · rw [e2] at e; cases e; omega
  · exact Below.trans (Below.trans t.e (hu.below (Below.size t.e) fun k q => by have := hq k q; omega)) (hs.below (Nat.le_trans (Below.size t.e) hu.size) fun k q => by omega)
/-- Behind the loop: what was drawn, and the words, are stored. -/
structure Tf (w : World) (g : Nat) (n dr : Int) (er : Int) (A : Option Addr) (k c : Nat) (B : Option Addr) (j d : Nat) (ws : List Value) (ls : List Value) (wr : World) : Prop where
  bo : Blk wr (g + 1) 31 (oC n dr er (.slice A k c) (.slice B j d))
  br : Blk wr w.heap.size 31 (oC 0 0 0 (.slice none 0 0) (.slice none 0 0))
  la : Liv (g + 1 + 1) wr A ws
  lb : Liv (g + 1 + 1) wr B ls
  e : Ext w wr
  lt : w.heap.size < g
theorem Tl.last (t : Tl w n0 h g s m n er B d a w1) {A : Option Addr} {k c : Nat} {ws : List Value} {b : Nat} (ho : w1.ownsRow b 36 1 (.slice A k c) k ws) (hb : g + 1 < b) (dr : Int) :
    Tf w g n dr er A k c B a.length d ws (a.flatMap lcl) ((w1.setCell ⟨g + 1, 1, none⟩ (.int .i64 dr)).setCell ⟨g + 1, 3, none⟩ (.slice A k c)) := by
  have l0 := t.l0; have l1 := t.l1
  have hu : Upd (· = g + 1) w1 ((w1.setCell ⟨g + 1, 1, none⟩ (.int .i64 dr)).setCell ⟨g + 1, 3, none⟩ (.slice A k c)) := upd_set _ _ 3 _ (upd_set w1 _ 1 _ (Upd.refl _ w1))
  exact ⟨(t.bo.set 1 _).set 3 _, t.br.upd hu (by omega), ((liv_own ho).low hb).upd hu (fun k hk q => by omega), (liv_own t.own).upd hu (fun k hk q => by omega),
    Below.trans t.e (hu.below (Below.size t.e) fun k q => by omega), by omega⟩
theorem Tf.fin {n dr er : Int} {A : Option Addr} {k c : Nat} {B : Option Addr} {j d : Nat} {ws ls : List Value} (t : Tf w g n dr er A k c B j d ws ls w1) :
    ∃ wf, ((((w1.setCell ⟨w.heap.size, 0, none⟩ (.int .i64 n)).setCell ⟨w.heap.size, 1, none⟩ (.int .i64 dr)).setCell ⟨w.heap.size, 2, none⟩ (.int .i64 er)).setCell ⟨w.heap.size, 3, none⟩ (.slice A k c)).setCell ⟨w.heap.size, 4, none⟩ (.slice B j d) = wf ∧
      Blk wf w.heap.size 31 (oC n dr er (.slice A k c) (.slice B j d)) ∧ Liv w.heap.size wf A ws ∧ Liv w.heap.size wf B ls ∧ Ext w wf := by
  have l0 := t.lt
  have hu : Upd (· = w.heap.size) w1 (((((w1.setCell ⟨w.heap.size, 0, none⟩ (.int .i64 n)).setCell ⟨w.heap.size, 1, none⟩ (.int .i64 dr)).setCell ⟨w.heap.size, 2, none⟩ (.int .i64 er)).setCell ⟨w.heap.size, 3, none⟩ (.slice A k c)).setCell ⟨w.heap.size, 4, none⟩ (.slice B j d)) :=
    upd_set _ _ 4 _ (upd_set _ _ 3 _ (upd_set _ _ 2 _ (upd_set _ _ 1 _ (upd_set w1 _ 0 _ (Upd.refl _ w1)))))
  exact ⟨_, rfl, ((((t.br.set 0 _).set 1 _).set 2 _).set 3 _).set 4 _, (t.la.upd hu fun k hk q => by omega).low (by omega), (t.lb.upd hu fun k hk q => by omega).low (by omega), Below.trans t.e (hu.below (Below.size t.e) fun k q => by omega)⟩
end
end Go.Proofs.YtkafmpdjpjgkgaaDoor.Rn
/- DERIVED. The walk of run's through. By an AI agent. -/
namespace Go.Proofs.YtkafmpdjpjgkgaaDoor.Rn
open Go.ChangeShapes Go.WideShapes Go.ChangeAt Go.RowKit WMath Word Args Mm Co Lk
set_option linter.unusedVariables false
set_option linter.unusedSimpArgs false
theorem drawn (n0 : Nat) (h : Hd) (m : St) (w : World) (p : PP n0 h m w) : Calls Tryd.prog 29 #[ptr h.r] w (Qt (.int .i64 m.d) w) := by
  have c3 : w.cell? ⟨h.r, 3, none⟩ = some (.int .i64 m.d) := p.blk.cell 3
  clear p
  go_enter Tryd.func29, Tryd.ntmps29
  go_wp2_with fail
  go_ret
  exact Qt.of _ w 0
theorem stepP (t : Bool) (s : S) (n0 : Nat) (h : Hd) (m : St) (w : World) (p : PP n0 h m w) (W0 : World) (hT0 : Tp.Tb W0) (hlo : Below W0.heap.size W0 w) (hn : W0.heap.size ≤ n0) : Calls Tryd.prog 28 #[sv s, ptr h.r, .bool t] w (LkEnd n0 h (lk t s m) w) := by
  cases t
  · exact stepF s n0 h m w p (hT0.below hlo)
  · exact stepT s n0 h m w p W0 hT0 hlo hn
theorem tl_new (w w1 w2 : World) (h : Hd) (M : St) (hw1 : w1 = w.alloc (.cells (oC 0 0 0 (.slice none 0 0) (.slice none 0 0)) 31)) (p : PP w1.heap.size h M w2) (hx : Ext w1 w2) :
    Tl w w1.heap.size h w2.heap.size zS M 0 80 none 0 [] ((w2.alloc (.cells (sC zS) 51)).alloc (.cells (oC 0 0 80 (.slice none 0 0) (.slice none 0 0)) 31)) := by
  have he : Ext w2 ((w2.alloc (.cells (sC zS) 51)).alloc (.cells (oC 0 0 80 (.slice none 0 0) (.slice none 0 0)) 31)) := (Ext.alloc _ _).trans (Ext.alloc _ _)
  have hs := Below.size hx
  have hsz : w1.heap.size = w.heap.size + 1 := by rw [hw1]; simp
  have hb : Blk w1 w.heap.size 31 (oC 0 0 0 (.slice none 0 0) (.slice none 0 0)) := by rw [hw1]; exact Blk.new w _ _
  have hw : Ext w w1 := by rw [hw1]; exact Ext.alloc _ _
  exact ⟨(Blk.new w2 _ _).alloc _, by have := Blk.new (w2.alloc (.cells (sC zS) 51)) 31 (oC 0 0 80 (.slice none 0 0) (.slice none 0 0)); rw [World.size_alloc] at this; exact this,
    (hb.below hx hb.lt).below he (by have := (hb.below hx hb.lt).lt; exact this), World.ownsRow_nil _ _ _ _, p.below he, hw.trans (hx.trans he), fun k hk => (p.lt hk).2, by omega, hs⟩
set_option maxRecDepth 100000 in
set_option maxHeartbeats 8000000 in
theorem through (t : Bool) (AC : Option Addr) (cC : Nat) (C : List Int) (AD : Option Addr) (cD : Nat) (D : List Int) (AT : Option Addr) (cT : Nat) (T : List Int) (z y : Int) (n : Nat) (w : World)
    (hC : Lies w AC (C.map (.int .u16))) (hD : Lies w AD (D.map (.int .u32))) (hL : Lies w AT (T.map (.int .u32)))
    (hc : C.length ≤ cC) (hcm : cC ≤ maxLen) (hd : D.length ≤ cD) (hdm : cD ≤ maxLen) (hf : Fit (m0 C D T)) (ld : D.length ≤ 30) (lt : T.length ≤ 60000)
    (hmin : (if (1048576 : Int) < z then 1048576 else z) = y) (hmax : (if (0 : Int) < y then y else 0) = (n : Int)) (hn : n ≤ 1000) (hT : Tp.Tb w) :
    Calls Tryd.prog 20 #[.slice AC C.length cC, .slice AD D.length cD, .slice AT T.length cT, .int .i64 z, .bool t] w (OutEnd (runV n zS (m0 C D T)) t w) := by
  obtain ⟨i0, hi, hz0, hz1, hz2⟩ := info_parts info10
  obtain ⟨w1, hw1⟩ : ∃ w1, w1 = w.alloc (.cells (oC 0 0 0 (.slice none 0 0) (.slice none 0 0)) 31) := ⟨_, rfl⟩
  have hx1 : Ext w w1 := by rw [hw1]; exact Ext.alloc _ _
  have hlaid := laid AC cC C AD cD D AT cT T w1 (hx1.lies hC) (hx1.lies hD) (hx1.lies hL) hc hcm hd hdm hf ld lt
  have hR : RO.pre [] (runV n zS (m0 C D T)) = runV n zS (m0 C D T) := rfl
  generalize m0 C D T = M at *
  obtain ⟨R, hR2⟩ : ∃ R, runV n zS M = R := ⟨_, rfl⟩
  rw [hR2] at hR ⊢
  have HI := Lib.hid hi; have HZ0 := Lib.hid hz0; have HZ1 := Lib.hid hz1; have HZ2 := Lib.hid hz2
  have HLAID := Lib.hid hlaid; have HR := Lib.hid (show RO.pre [] (runV n zS M) = R from by rw [hR2]; rfl); have HN := Lib.hid hn; have HT := Lib.hid hT; have HW1 := Lib.hid hw1; have HX1 := Lib.hid hx1
  clear hi hz0 hz1 hz2 hC hD hL hc hcm hd hdm hf ld lt hn hT hlaid hR hR2 hx1
  go_enter Tryd.func20, Tryd.ntmps20
  go_upto_region 1 with fail
  rw [show w.alloc (.cells #[.int .i64 0, .int .i64 0, .int .i64 0, .slice none 0 0, .slice none 0 0] 31) = w1 from hw1.symm]
  clear hw1
  go_wp2_with fail
  refine HLAID.out.mono ?_
  rintro e w2 ⟨h, rfl, hp2, hx2⟩
  have HT0 := Lib.hid (tl_new w w1 w2 h M HW1.out hp2 hx2)
  clear hp2 hx2 HLAID
  go_upto_region 4 with fail
  change Code.wp _ _ _ _ ((w2.alloc (.cells (sC zS) 51)).alloc (.cells (oC 0 0 80 (.slice none 0 0) (.slice none 0 0)) 31))
  generalize (w2.alloc (.cells (sC zS) 51)).alloc (.cells (oC 0 0 80 (.slice none 0 0) (.slice none 0 0)) 31) = w3 at *
  generalize w2.heap.size = g at *
  generalize w1.heap.size = n0 at *
  clear HW1 HX1
  go_upto_block 0 with fail
  go_cut [] (fun wx => ∃ B d s', Hid (Tl w n0 h g s' R.m R.ls.length R.er B d (tl t R.ls) wx))
  case first =>
    go_wp2_with fail
    go_loopw [27] (fun vk wr => ∃ (k : Nat) (a : List L) (s : S) (m : St) (B : Option Addr) (d : Nat), k ≤ n ∧ vk = .int .i64 k ∧ Hid (a.length = k ∧ RO.pre a (runV (n - k) s m) = R) ∧ Hid (Tl w n0 h g s m k 80 B d (tl t a) wr)) (fun vk _ => n - (intOf vk).toNat)
    case atStart => exact ⟨0, [], zS, M, none, 0, by omega, rfl, Lib.hid ⟨rfl, HR.out⟩, by cases t <;> exact HT0⟩
    case round =>
      clear HT0 HR
      obtain ⟨k, a, s, m, B, d, hk, rfl, HA, HTL⟩ := hrel
      by_cases hlt : k < n
      · obtain ⟨f, hf⟩ : ∃ f, n - k = f + 1 := ⟨n - k - 1, by omega⟩
        have hpre := HA.out.2
        rw [hf] at hpre
        rcases hq : leakV s m with ⟨x, l, st, er, m2⟩
        have hst := fun W p hlo => stepP t s n0 h m W p w HT.out hlo (by have := HTL.out.l0; omega)
        have hlk : lk t s m = ⟨x, if t then l else zL, st, er, m2⟩ := by unfold lk; rw [hq]
        rw [hlk] at hst
        have hKE : er ≠ 0 → R = ⟨a, er, m2⟩ := fun he => by rw [← hpre]; exact run_err hq he a
        have hKS : er = 0 → st = true → R = ⟨a ++ [l], 0, m2⟩ := fun he h2 => by subst he h2; rw [← hpre]; exact run_stop hq a
        have hKO : er = 0 → st = false → RO.pre (a ++ [l]) (runV (n - (k + 1)) x m2) = R := fun he h2 => by subst he h2; rw [← hpre, show n - (k + 1) = f by omega]; exact (run_on hq a).symm
        have HKE := Lib.hid hKE; have HKS := Lib.hid hKS; have HKO := Lib.hid hKO; have HST := Lib.hid hst; have HLT := Lib.hid hlt; have HAL := Lib.hid HA.out.1
        have hki : (k : Int) < (n : Int) := by omega
        have hk9 : (k : Int) < 10000 := by have := HN.out; omega
        clear hf hpre hq hst hlk hKE hKS hKO hlt HA hk
        obtain ⟨l1, hl1⟩ : ∃ l1, l1 = (if t then l else zL) := ⟨_, rfl⟩
        rw [← hl1] at HST
        have HL1 := Lib.hid hl1
        clear hl1
        obtain ⟨n0', n1, n2, n3, n4, n5, n6, n7, n8, n9, n10, n11, n12⟩ := Blk.cells13 HTL.out.bs
        go_wp2_with fail
        refine (HST.out _ HTL.out.p HTL.out.e).mono ?_
        rintro e w4 ⟨rfl, hp4, hu4⟩
        have HT4 := Lib.hid (HTL.out.step hp4 hu4)
        clear n0' n1 n2 n3 n4 n5 n6 n7 n8 n9 n10 n11 n12 hp4 hu4 HTL HST
        go_upto_region 7 with fail
        change Code.wp _ _ _ _ ((w4.alloc (.cells (sC x) 51)).alloc (.cells (lC l1) 39))
        have hx : Ext w4 ((w4.alloc (.cells (sC x) 51)).alloc (.cells (lC l1) 39)) := (Ext.alloc _ _).trans (Ext.alloc _ _)
        have HT5 := Lib.hid (HT4.out.below hx)
        have HX5 := Lib.hid ((Blk.new w4 51 (sC x)).alloc (.cells (lC l1) 39))
        have hl5 := Blk.new (w4.alloc (.cells (sC x) 51)) 39 (lC l1)
        rw [World.size_alloc] at hl5
        have HL5 := Lib.hid hl5
        have HG := Lib.hid HT4.out.bo.lt
        generalize (w4.alloc (.cells (sC x) 51)).alloc (.cells (lC l1) 39) = w5 at *
        generalize w4.heap.size = q at *
        clear hl5 hx HT4
        by_cases he : er = 0
        · subst he
          obtain ⟨n0', n1, n2, n3, n4, n5, n6, n7, n8, n9, n10, n11, n12⟩ := Blk.cells13 HX5.out
          obtain ⟨z0, z1, z2, z3, z4, z5, z6, z7, z8, z9, z10, z11, z12⟩ := Blk.cells13 HT5.out.bs
          obtain ⟨f0, f1, f2, f3, f4, f5, f6, f7, f8, f9, f10, f11, f12⟩ := Blk.frozen13 HT5.out.bs
          go_upto_region 10 with fail
          have HL6 := Lib.hid (HL5.out.upd (blk13 HT5.out.bs x).2 (by have := HG.out; omega))
          have HT6 := Lib.hid (HT5.out.put x)
          clear n0' n1 n2 n3 n4 n5 n6 n7 n8 n9 n10 n11 n12 z0 z1 z2 z3 z4 z5 z6 z7 z8 z9 z10 z11 z12 f0 f1 f2 f3 f4 f5 f6 f7 f8 f9 f10 f11 f12 HX5 HL5 HT5
          obtain ⟨w6, hw6⟩ : ∃ w6, put13 w5 g x = w6 := ⟨_, rfl⟩
          rw [hw6] at HL6 HT6
          simp only [put13] at hw6
          rw [hw6]
          clear hw6
          have o0 : w6.cell? ⟨g + 1, 0, none⟩ = some (.int .i64 (k : Int)) := HT6.out.bo.cell 0
          have p0 := HT6.out.bo.frozen 0
          go_upto_region 11 with fail
          have HT7 := Lib.hid (HT6.out.set (n' := k + 1) (er' := 80) 0 (.int .i64 ((k : Int) + 1)) rfl)
          have HL7 := Lib.hid (HL6.out.far (p := ⟨g + 1, 0, none⟩) (by have := HG.out; show q + 1 ≠ g + 1; omega) (.int .i64 ((k : Int) + 1)))
          generalize w6.setCell ⟨g + 1, 0, none⟩ (.int .i64 ((k : Int) + 1)) = w7 at *
          clear o0 p0 HT6 HL6
          cases t
          · go_upto_region 13 with fail
            cases st
            · go_wp2_with fail
              go_roundw
              case rel => exact ⟨k + 1, a ++ [l], x, m2, B, d, by have := HLT.out; omega, by go_num, Lib.hid ⟨by rw [List.length_append, HAL.out]; rfl, HKO.out rfl rfl⟩, HT7⟩
              case measure => have := HLT.out; simp [intOf]; omega
            · have o2 : w7.cell? ⟨g + 1, 2, none⟩ = some (.int .i64 80) := HT7.out.bo.cell 2
              have p2 := HT7.out.bo.frozen 2
              have hR := HKS.out rfl rfl
              clear HKS HKO HKE
              go_wp2_with fail
              go_meet
              case rel =>
                subst hR
                exact ⟨B, d, x, Lib.hid (by have := HT7.out.set (n' := k + 1) (er' := 0) 2 (.int .i64 0) rfl; rw [show (a ++ [l]).length = k + 1 by rw [List.length_append, HAL.out]; rfl]; exact this)⟩
          · obtain rfl : l1 = l := by simpa using HL1.out
            have o4 : w7.cell? ⟨g + 1, 4, none⟩ = some (.slice B a.length d) := HT7.out.bo.cell 4
            obtain ⟨y0, y1, y2, y3, y4, y5, y6, y7, y8, y9⟩ := Blk.cells10 HL7.out
            have HT8 := Lib.hid (show Tl w n0 h g x m2 (k + 1) 80 B d a (w7.alloc (.cells (lC l1) 39)) from HT7.out.below (Ext.alloc _ _))
            have HLI := Lib.hid (show Lies (w7.alloc (.cells (lC l1) 39)) (some ⟨w7.heap.size, 0, none⟩) (lcl l1) from fun j u hj => ⟨_, rfl, by
              rw [Args.add_plain, Nat.zero_add, World.cell?_alloc_at _ _ _ _ rfl]
              simpa [lcl] using hj⟩)
            have HBS := Lib.hid (show g + 1 + 1 ≤ (w7.alloc (.cells (lC l1) 39)).heap.size from by have := HT8.out.bo.lt; omega)
            have hb1 : a.length + 1 ≤ maxLen := by have := HAL.out; have := HN.out; have := HLT.out; unfold maxLen; omega
            have hb2 : (a.length + 1) * 36 ≤ 140737488355328 := by have := HAL.out; have := HN.out; have := HLT.out; omega
            have HM1 := Lib.hid hb1; have HM2 := Lib.hid hb2
            clear hb1 hb2
            go_upto_region 13 with (at_builtin; refine wpList_fresh rfl (.tmp 49) (.tmp 51) 29 rfl (g + 1 + 1) 39 i0 (lv zL) 10 36 Tryd.underlying29 HI.out HZ0.out HZ1.out HZ2.out rfl (by decide) (.slice B a.length d) a.length (a.flatMap lcl) rfl HT8.out.own (some ⟨w7.heap.size, 0, none⟩) 1 1 (lcl l1) rfl rfl HLI.out (lcl_one l1) HM1.out HM2.out HBS.out ?_; intro B6 d6 w8 h2 h3 h4 h5; have HT9 := Lib.hid (HT8.out.app h5 h4); have hbb := HT8.out.grown_bo h5; have o4 := hbb.cell 4; have p4 := hbb.frozen 4; clear h2 h3 h4 h5 hbb)
            generalize w8.setCell ⟨g + 1, 4, none⟩ (.slice B6 (a.length + 1) d6) = w9 at *
            clear o4 p4 HT8 HT7 HL7 HLI HBS y0 y1 y2 y3 y4 y5 y6 y7 y8 y9
            cases st
            · go_wp2_with fail
              go_roundw
              case rel => exact ⟨k + 1, a ++ [l1], x, m2, B6, d6, by have := HLT.out; omega, by go_num, Lib.hid ⟨by rw [List.length_append, HAL.out]; rfl, HKO.out rfl rfl⟩, HT9⟩
              case measure => have := HLT.out; simp [intOf]; omega
            · have o2 : w9.cell? ⟨g + 1, 2, none⟩ = some (.int .i64 80) := HT9.out.bo.cell 2
              have p2 := HT9.out.bo.frozen 2
              have hR := HKS.out rfl rfl
              clear HKS HKO HKE
              go_wp2_with fail
              go_meet
              case rel =>
                subst hR
                exact ⟨B6, d6, x, Lib.hid (by have := HT9.out.set (n' := k + 1) (er' := 0) 2 (.int .i64 0) rfl; rw [show (a ++ [l1]).length = k + 1 by rw [List.length_append, HAL.out]; rfl]; exact this)⟩
        · have he2 : (er != 0) = true := by simpa using he
          have hR := HKE.out he
          have o2 : w5.cell? ⟨g + 1, 2, none⟩ = some (.int .i64 80) := HT5.out.bo.cell 2
          have p2 := HT5.out.bo.frozen 2
          clear HKE HKS HKO he
          go_wp2_with fail
          go_meet
          case rel =>
            subst hR
            exact ⟨B, d, s, Lib.hid (by have := HT5.out.set (n' := k) (er' := er) 2 (.int .i64 er) rfl; rw [show a.length = k from HAL.out]; exact this)⟩
      · obtain rfl : k = n := by omega
        have hR := HA.out.2
        rw [Nat.sub_self, run_zero] at hR
        have HA1 := Lib.hid HA.out.1
        subst hR
        clear HA hlt hk
        go_wp2_with fail
        go_meet
        case rel => exact ⟨B, d, s, by have := HTL; rw [HA1.out]; exact this⟩
  case rest =>
  obtain ⟨B, d, s', HTL⟩ := hcut
  clear HT0 HR
  have HDR := Lib.hid (drawn n0 h R.m wc HTL.out.p)
  go_wp2_with fail
  refine HDR.out.mono ?_
  rintro e w1' ⟨rfl, nq, rfl⟩
  have HTD := Lib.hid (HTL.out.below (below_drewN (Below.refl wc.heap.size wc) nq))
  generalize wc.drewN nq = w4 at *
  clear HTL HDR
  go_wp2_with fail
  refine (words n0 h R.m w4 HTD.out.p).mono ?_
  rintro e w5 ⟨A, c, rfl, ho, hx⟩
  have HT5 := Lib.hid (HTD.out.below hx)
  have HTF := Lib.hid ((HTD.out.below hx).last ho HTD.out.bo.lt (R.m.d : Int))
  have HCW := Lib.hid (sl_own ho)
  have HCB := Lib.hid (sl_own (HTD.out.own))
  clear ho hx HTD
  have o1 := HT5.out.bo.cell 1; have p1 := HT5.out.bo.frozen 1
  have o3 := HT5.out.bo.cell 3; have p3 := HT5.out.bo.frozen 3
  simp at o1 o3
  go_upto_region 17 with fail
  generalize (w5.setCell ⟨g + 1, 1, none⟩ (.int .i64 (R.m.d : Int))).setCell ⟨g + 1, 3, none⟩ (.slice A R.m.W.length c) = w6 at *
  clear o1 p1 o3 p3 HT5
  have y0 := HTF.out.bo.cell 0; have y1 := HTF.out.bo.cell 1; have y2 := HTF.out.bo.cell 2; have y3 := HTF.out.bo.cell 3; have y4 := HTF.out.bo.cell 4
  have z0 := HTF.out.br.cell 0; have z1 := HTF.out.br.cell 1; have z2 := HTF.out.br.cell 2; have z3 := HTF.out.br.cell 3; have z4 := HTF.out.br.cell 4
  have f0 := HTF.out.br.frozen 0; have f1 := HTF.out.br.frozen 1; have f2 := HTF.out.br.frozen 2; have f3 := HTF.out.br.frozen 3; have f4 := HTF.out.br.frozen 4
  simp at y0 y1 y2 y3 y4 z0 z1 z2 z3 z4
  go_wp2_with fail
  clear y0 y1 y2 y3 y4 z0 z1 z2 z3 z4 f0 f1 f2 f3 f4
  obtain ⟨wf, hwf, hb, hla, hlb, he⟩ := HTF.out.fin
  rw [hwf]
  have y0 := hb.cell 0; have y1 := hb.cell 1; have y2 := hb.cell 2; have y3 := hb.cell 3; have y4 := hb.cell 4
  simp at y0 y1 y2 y3 y4
  obtain ⟨A', c', e1, k1, k2, _⟩ := HCW.out
  obtain ⟨B', d', e2, k3, k4, _⟩ := HCB.out
  cases e1; cases e2
  exact bodyPost_ret (v := .agg (oC R.ls.length R.m.d R.er (.slice A R.m.W.length c) (.slice B (tl t R.ls).length d))) (by simp [results, Tryd.results20, go_sem, y0, y1, y2, y3, y4]) rfl ⟨A, c, B, d, rfl, hla, hlb, ⟨k1, k2, k3, k4⟩, he⟩
end Go.Proofs.YtkafmpdjpjgkgaaDoor.Rn
/- DERIVED. The contracts of run's Exec and Quick. By an AI agent. -/
namespace Go.Proofs.YtkafmpdjpjgkgaaDoor.Rn
open Go.ChangeShapes Go.WideShapes Go.ChangeAt Go.RowKit WMath Word Args Mm Co Lk
set_option linter.unusedVariables false
set_option linter.unusedSimpArgs false
/-- An outcome is stored. -/
theorem out_fin {w w1 w2 : World} {A B : Option Addr} {ws ls : List Value} (hb : Blk w2 w.heap.size 31 (oC 0 0 0 (.slice none 0 0) (.slice none 0 0))) (la : Liv w1.heap.size w2 A ws) (lb : Liv w1.heap.size w2 B ls) (hx : Ext w w2) (hs : w.heap.size + 1 ≤ w1.heap.size)
    (n dr er : Int) (k c j d : Nat) :
    ∃ wf, ((((w2.setCell ⟨w.heap.size, 0, none⟩ (.int .i64 n)).setCell ⟨w.heap.size, 1, none⟩ (.int .i64 dr)).setCell ⟨w.heap.size, 2, none⟩ (.int .i64 er)).setCell ⟨w.heap.size, 3, none⟩ (.slice A k c)).setCell ⟨w.heap.size, 4, none⟩ (.slice B j d) = wf ∧
      Blk wf w.heap.size 31 (oC n dr er (.slice A k c) (.slice B j d)) ∧ Liv w.heap.size wf A ws ∧ Liv w.heap.size wf B ls ∧ Ext w wf := by
  have hu : Upd (· = w.heap.size) w2 (((((w2.setCell ⟨w.heap.size, 0, none⟩ (.int .i64 n)).setCell ⟨w.heap.size, 1, none⟩ (.int .i64 dr)).setCell ⟨w.heap.size, 2, none⟩ (.int .i64 er)).setCell ⟨w.heap.size, 3, none⟩ (.slice A k c)).setCell ⟨w.heap.size, 4, none⟩ (.slice B j d)) :=
    upd_set _ _ 4 _ (upd_set _ _ 3 _ (upd_set _ _ 2 _ (upd_set _ _ 1 _ (upd_set w2 _ 0 _ (Upd.refl _ w2)))))
  exact ⟨_, rfl, ((((hb.set 0 _).set 1 _).set 2 _).set 3 _).set 4 _, (la.upd hu fun k hk q => by omega).low (by omega), (lb.upd hu fun k hk q => by omega).low (by omega), Below.trans hx (hu.below (Below.size hx) fun k q => by omega)⟩
set_option maxRecDepth 100000 in
set_option maxHeartbeats 4000000 in
theorem exec (AC : Option Addr) (cC : Nat) (C : List Int) (AD : Option Addr) (cD : Nat) (D : List Int) (AT : Option Addr) (cT : Nat) (T : List Int) (z y : Int) (n : Nat) (w : World)
    (hC : Lies w AC (C.map (.int .u16))) (hD : Lies w AD (D.map (.int .u32))) (hL : Lies w AT (T.map (.int .u32)))
    (hc : C.length ≤ cC) (hcm : cC ≤ maxLen) (hd : D.length ≤ cD) (hdm : cD ≤ maxLen) (hf : Fit (m0 C D T)) (ld : D.length ≤ 30) (lt : T.length ≤ 60000)
    (hmin : (if (1048576 : Int) < z then 1048576 else z) = y) (hmax : (if (0 : Int) < y then y else 0) = (n : Int)) (hn : n ≤ 1000) (hT : Tp.Tb w) :
    Calls Tryd.prog 10 #[.slice AC C.length cC, .slice AD D.length cD, .slice AT T.length cT, .int .i64 z] w (OutEnd (runV n zS (m0 C D T)) true w) := by
  obtain ⟨w1, hw1⟩ : ∃ w1, w1 = w.alloc (.cells (oC 0 0 0 (.slice none 0 0) (.slice none 0 0)) 31) := ⟨_, rfl⟩
  have hx1 : Ext w w1 := by rw [hw1]; exact Ext.alloc _ _
  have hb : Blk w1 w.heap.size 31 (oC 0 0 0 (.slice none 0 0) (.slice none 0 0)) := by rw [hw1]; exact Blk.new w _ _
  have ht := through true AC cC C AD cD D AT cT T z y n w1 (hx1.lies hC) (hx1.lies hD) (hx1.lies hL) hc hcm hd hdm hf ld lt hmin hmax hn (hT.below hx1)
  generalize runV n zS (m0 C D T) = R at *
  have HB := Lib.hid hb; have HX := Lib.hid hx1; have HTH := Lib.hid ht
  clear hC hD hL hc hcm hd hdm hf ld lt hmin hmax hn hT hb hx1 ht
  go_enter Tryd.func10, Tryd.ntmps10
  go_upto_region 1 with fail
  rw [show w.alloc (.cells #[.int .i64 0, .int .i64 0, .int .i64 0, .slice none 0 0, .slice none 0 0] 31) = w1 from hw1.symm]
  clear hw1
  go_wp2_with fail
  refine HTH.out.mono ?_
  rintro e w2 ⟨A, c, B, d, rfl, hla, hlb, hk, hx⟩
  have HB2 := Lib.hid (HB.out.below hx HB.out.lt)
  have HX2 := Lib.hid (HX.out.trans hx)
  have HSZ := Lib.hid (show w.heap.size + 1 ≤ w1.heap.size from HB.out.lt)
  have HLA := Lib.hid hla; have HLB := Lib.hid hlb; have HK := Lib.hid hk
  clear hla hlb hk hx HTH HB HX
  have z0 := HB2.out.cell 0; have z1 := HB2.out.cell 1; have z2 := HB2.out.cell 2; have z3 := HB2.out.cell 3; have z4 := HB2.out.cell 4
  have f0 := HB2.out.frozen 0; have f1 := HB2.out.frozen 1; have f2 := HB2.out.frozen 2; have f3 := HB2.out.frozen 3; have f4 := HB2.out.frozen 4
  simp at z0 z1 z2 z3 z4
  go_wp2_with fail
  clear z0 z1 z2 z3 z4 f0 f1 f2 f3 f4
  obtain ⟨wf, hwf, hb, hla, hlb, he⟩ := out_fin HB2.out HLA.out HLB.out HX2.out HSZ.out R.ls.length R.m.d R.er R.m.W.length c (tl true R.ls).length d
  rw [hwf]
  have y0 := hb.cell 0; have y1 := hb.cell 1; have y2 := hb.cell 2; have y3 := hb.cell 3; have y4 := hb.cell 4
  simp at y0 y1 y2 y3 y4
  exact bodyPost_ret (v := .agg (oC R.ls.length R.m.d R.er (.slice A R.m.W.length c) (.slice B (tl true R.ls).length d))) (by simp [results, Tryd.results10, go_sem, y0, y1, y2, y3, y4]) rfl ⟨A, c, B, d, rfl, hla, hlb, HK.out, he⟩
set_option maxRecDepth 100000 in
set_option maxHeartbeats 4000000 in
theorem quick (AC : Option Addr) (cC : Nat) (C : List Int) (AD : Option Addr) (cD : Nat) (D : List Int) (AT : Option Addr) (cT : Nat) (T : List Int) (z y : Int) (n : Nat) (w : World)
    (hC : Lies w AC (C.map (.int .u16))) (hD : Lies w AD (D.map (.int .u32))) (hL : Lies w AT (T.map (.int .u32)))
    (hc : C.length ≤ cC) (hcm : cC ≤ maxLen) (hd : D.length ≤ cD) (hdm : cD ≤ maxLen) (hf : Fit (m0 C D T)) (ld : D.length ≤ 30) (lt : T.length ≤ 60000)
    (hmin : (if (1048576 : Int) < z then 1048576 else z) = y) (hmax : (if (0 : Int) < y then y else 0) = (n : Int)) (hn : n ≤ 1000) (hT : Tp.Tb w) :
    Calls Tryd.prog 12 #[.slice AC C.length cC, .slice AD D.length cD, .slice AT T.length cT, .int .i64 z] w (OutEnd (runV n zS (m0 C D T)) false w) := by
  obtain ⟨w1, hw1⟩ : ∃ w1, w1 = w.alloc (.cells (oC 0 0 0 (.slice none 0 0) (.slice none 0 0)) 31) := ⟨_, rfl⟩
  have hx1 : Ext w w1 := by rw [hw1]; exact Ext.alloc _ _
  have hb : Blk w1 w.heap.size 31 (oC 0 0 0 (.slice none 0 0) (.slice none 0 0)) := by rw [hw1]; exact Blk.new w _ _
  have ht := through false AC cC C AD cD D AT cT T z y n w1 (hx1.lies hC) (hx1.lies hD) (hx1.lies hL) hc hcm hd hdm hf ld lt hmin hmax hn (hT.below hx1)
  generalize runV n zS (m0 C D T) = R at *
  have HB := Lib.hid hb; have HX := Lib.hid hx1; have HTH := Lib.hid ht
  clear hC hD hL hc hcm hd hdm hf ld lt hmin hmax hn hT hb hx1 ht
  go_enter Tryd.func12, Tryd.ntmps12
  go_upto_region 1 with fail
  rw [show w.alloc (.cells #[.int .i64 0, .int .i64 0, .int .i64 0, .slice none 0 0, .slice none 0 0] 31) = w1 from hw1.symm]
  clear hw1
  go_wp2_with fail
  refine HTH.out.mono ?_
  rintro e w2 ⟨A, c, B, d, rfl, hla, hlb, hk, hx⟩
  have HB2 := Lib.hid (HB.out.below hx HB.out.lt)
  have HX2 := Lib.hid (HX.out.trans hx)
  have HSZ := Lib.hid (show w.heap.size + 1 ≤ w1.heap.size from HB.out.lt)
  have HLA := Lib.hid hla; have HLB := Lib.hid hlb; have HK := Lib.hid hk
  clear hla hlb hk hx HTH HB HX
  have z0 := HB2.out.cell 0; have z1 := HB2.out.cell 1; have z2 := HB2.out.cell 2; have z3 := HB2.out.cell 3; have z4 := HB2.out.cell 4
  have f0 := HB2.out.frozen 0; have f1 := HB2.out.frozen 1; have f2 := HB2.out.frozen 2; have f3 := HB2.out.frozen 3; have f4 := HB2.out.frozen 4
  simp at z0 z1 z2 z3 z4
  go_wp2_with fail
  clear z0 z1 z2 z3 z4 f0 f1 f2 f3 f4
  obtain ⟨wf, hwf, hb, hla, hlb, he⟩ := out_fin HB2.out HLA.out HLB.out HX2.out HSZ.out R.ls.length R.m.d R.er R.m.W.length c (tl false R.ls).length d
  rw [hwf]
  have y0 := hb.cell 0; have y1 := hb.cell 1; have y2 := hb.cell 2; have y3 := hb.cell 3; have y4 := hb.cell 4
  simp at y0 y1 y2 y3 y4
  exact bodyPost_ret (v := .agg (oC R.ls.length R.m.d R.er (.slice A R.m.W.length c) (.slice B (tl false R.ls).length d))) (by simp [results, Tryd.results12, go_sem, y0, y1, y2, y3, y4]) rfl ⟨A, c, B, d, rfl, hla, hlb, HK.out, he⟩
end Go.Proofs.YtkafmpdjpjgkgaaDoor.Rn
