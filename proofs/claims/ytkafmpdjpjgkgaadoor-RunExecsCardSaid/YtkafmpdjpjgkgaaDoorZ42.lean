/- DERIVED. RnThq, RnNew in one text. By an AI agent. -/
import Derived.Test.YtkafmpdjpjgkgaaDoorZ26
import Derived.Test.YtkafmpdjpjgkgaaDoorZ41
import Derived.Test.YtkafmpdjpjgkgaaDoorZ29
import Derived.Deep.DeepCutAuto
/- DERIVED. The boxes of the reference's Exec. By an AI agent. -/
namespace Go.Proofs.YtkafmpdjpjgkgaaDoor.Rn
open Go.ChangeShapes Go.WideShapes Go.ChangeAt Go.RowKit WMath Word Args Mm MmR Co Lk
set_option linter.unusedVariables false
set_option linter.unusedSimpArgs false
/-- The loop's boxes. -/
structure Tr (w : World) (n0 : Nat) (h : Hd) (g : Nat) (s : S) (m : St) (n : Nat) (er : Int) (B : Option Addr) (d : Nat) (a : List L) (wr : World) : Prop where
  bs : Blk wr g 51 (sC s)
  bo : Blk wr (g + 1) 31 (oC n 0 er (.slice none 0 0) (.slice B a.length d))
  br : Blk wr w.heap.size 31 (oC 0 0 0 (.slice none 0 0) (.slice none 0 0))
  own : wr.ownsRow (g + 1 + 1) 39 10 (.slice B a.length d) a.length (a.flatMap lcl)
  p : RP n0 h m wr
  e : Ext w wr
  hB : ∀ k, h.B k → k < g
  l0 : w.heap.size < n0
  l1 : n0 ≤ g
section
variable {w w1 w2 : World} {n0 : Nat} {h : Hd} {g : Nat} {s s' : S} {m m' : St} {n : Nat} {er : Int} {B : Option Addr} {d : Nat} {a : List L}
theorem Tr.lo (t : Tr w n0 h g s m n er B d a w1) : ∀ k, h.B k → n0 ≤ k ∧ k < g := fun k hk => ⟨(t.p.lt hk).1, t.hB k hk⟩
theorem Tr.upd {X : Nat → Prop} (t : Tr w n0 h g s m n er B d a w1) (p : RP n0 h m' w2) (hu : Upd X w1 w2) (hX : ∀ k, X k → n0 ≤ k ∧ k < g ∨ g + 1 < k ∧ B ≠ some ⟨k, 0, none⟩) : Tr w n0 h g s m' n er B d a w2 :=
  have l0 := t.l0; have l1 := t.l1
  ⟨t.bs.upd hu (fun q => by have := hX _ q; omega), t.bo.upd hu (fun q => by have := hX _ q; omega), t.br.upd hu (fun q => by have := hX _ q; omega),
    Mm.own_upd t.own hu (fun k e q => by
      rcases hX k q with h1 | h1
      · rcases own_form t.own with ⟨e2, _⟩ | ⟨g2, e2, h3, _⟩
        · rw [e2] at e; cases e
        · rw [e2] at e; cases e; omega
      · exact h1.2 e), p, Below.trans t.e (hu.below (Below.size t.e) fun k q => by have := hX k q; omega), t.hB, l0, l1⟩
theorem Tr.step (t : Tr w n0 h g s m n er B d a w1) (p : RP n0 h m' w2) (hu : Upd h.X w1 w2) : Tr w n0 h g s m' n er B d a w2 := t.upd p hu fun k q => .inl (t.lo k (Hd.XB q))
theorem Tr.below (t : Tr w n0 h g s m n er B d a w1) (hb : Ext w1 w2) : Tr w n0 h g s m n er B d a w2 := t.upd (t.p.below hb) (Upd.of_below hb fun _ => False) fun _ q => q.elim
theorem Tr.put (t : Tr w n0 h g s m n er B d a w1) (x : S) : Tr w n0 h g x m n er B d a (put13 w1 g x) := by
  obtain ⟨h1, h2⟩ := blk13 t.bs x
  have l0 := t.l0; have l1 := t.l1
  exact ⟨h1, t.bo.upd h2 (by omega), t.br.upd h2 (by omega), Mm.own_upd t.own h2 (fun k e q => by
      rcases own_form t.own with ⟨e2, _⟩ | ⟨g2, e2, h3, _⟩
      · rw [e2] at e; cases e
      · rw [e2] at e; cases e; omega), t.p.upd h2 (fun k hk q => by have := t.lo k hk; omega), Below.trans t.e (h2.below (Below.size t.e) fun k q => by omega), t.hB, l0, l1⟩
theorem Tr.set (t : Tr w n0 h g s m n er B d a w1) {n' : Nat} {er' : Int} (i : Nat) (v : Value) (hc : (oC n 0 er (.slice none 0 0) (.slice B a.length d)).setIfInBounds i v = oC n' 0 er' (.slice none 0 0) (.slice B a.length d)) : Tr w n0 h g s m n' er' B d a (w1.setCell ⟨g + 1, i, none⟩ v) := by
  have hu : Upd (· = g + 1) w1 (w1.setCell ⟨g + 1, i, none⟩ v) := upd_set w1 _ i v (Upd.refl _ w1)
  have l0 := t.l0; have l1 := t.l1
  exact ⟨t.bs.upd hu (by omega), hc ▸ t.bo.set i v, t.br.upd hu (by omega), Mm.own_upd t.own hu (fun k e q => by
      rcases own_form t.own with ⟨e2, _⟩ | ⟨g2, e2, h3, _⟩
      · rw [e2] at e; cases e
      · rw [e2] at e; cases e; omega), t.p.upd hu (fun k hk q => by have := t.lo k hk; omega), Below.trans t.e (hu.below (Below.size t.e) fun k q => by omega), t.hB, l0, l1⟩
theorem Tr.grown_bo (t : Tr w n0 h g s m n er B d a w1) (hg : w1.grownBy w2 (Value.slice B a.length d).ownBlock) : Blk w2 (g + 1) 31 (oC n 0 er (.slice none 0 0) (.slice B a.length d)) := by
  refine (hg.block (g + 1) t.bo.lt fun e => ?_).trans t.bo
  rcases own_form t.own with ⟨e2, _⟩ | ⟨g2, e2, h3, _⟩
  · rw [e2] at e; simp [Value.ownBlock] at e
  · rw [e2] at e; simp [Value.ownBlock] at e; omega
/-- A leak is appended. -/
theorem Tr.app (t : Tr w n0 h g s m n er B d a w1) {l : L} {B' : Option Addr} {d' : Nat} (hg : w1.grownBy w2 (Value.slice B a.length d).ownBlock) (ho : w2.ownsRow (g + 1 + 1) 39 10 (.slice B' (a.length + 1) d') (a.length + 1) (a.flatMap lcl ++ lcl l)) :
    Tr w n0 h g s m n er B' d' (a ++ [l]) (w2.setCell ⟨g + 1, 4, none⟩ (.slice B' (a.length + 1) d')) := by
  have l0 := t.l0; have l1 := t.l1
  have hq : ∀ k, some k = (Value.slice B a.length d).ownBlock → g + 1 < k := fun k e => by
    rcases own_form t.own with ⟨e2, _⟩ | ⟨g2, e2, h3, _⟩
    · rw [e2] at e; simp [Value.ownBlock] at e
    · rw [e2] at e; simp [Value.ownBlock] at e; omega
  have hu : Upd (fun k => some k = (Value.slice B a.length d).ownBlock) w1 w2 := (Upd.refl _ w1).grown hg fun k e _ => e.symm
  have p2 := t.p.upd hu (fun k hk q => by have := hq k q; have := t.lo k hk; omega)
  have hs : Upd (· = g + 1) w2 (w2.setCell ⟨g + 1, 4, none⟩ (.slice B' (a.length + 1) d')) := upd_set w2 _ 4 _ (Upd.refl _ w2)
  have hlen : (a ++ [l]).length = a.length + 1 := by simp
  refine ⟨(t.bs.upd hu (fun q => by have := hq _ q; omega)).upd hs (by omega), ?_, (t.br.upd hu (fun q => by have := hq _ q; omega)).upd hs (by omega), ?_, p2.upd hs (fun k hk q => by have := t.lo k hk; omega), ?_, t.hB, l0, l1⟩
  · rw [hlen]
    exact (t.bo.upd hu (fun q => by have := hq _ q; omega)).set 4 _
  · rw [hlen, List.flatMap_append, show [l].flatMap lcl = lcl l from by simp]
    refine Mm.own_upd ho hs (fun k e q => ?_)
    rcases own_form ho with ⟨e2, _⟩ | ⟨g2, e2, h3, _⟩
    · rw [e2] at e; cases e
    · rw [e2] at e; cases e; omega
  · exact Below.trans (Below.trans t.e (hu.below (Below.size t.e) fun k q => by have := hq k q; omega)) (hs.below (Nat.le_trans (Below.size t.e) hu.size) fun k q => by omega)
theorem Tr.last (t : Tr w n0 h g s m n er B d a w1) {A : Option Addr} {k c : Nat} {ws : List Value} {b : Nat} (ho : w1.ownsRow b 36 1 (.slice A k c) k ws) (hb : g + 1 < b) (dr : Int) :
    Tf w g n dr er A k c B a.length d ws (a.flatMap lcl) ((w1.setCell ⟨g + 1, 1, none⟩ (.int .i64 dr)).setCell ⟨g + 1, 3, none⟩ (.slice A k c)) := by
  have l0 := t.l0; have l1 := t.l1
  have hu : Upd (· = g + 1) w1 ((w1.setCell ⟨g + 1, 1, none⟩ (.int .i64 dr)).setCell ⟨g + 1, 3, none⟩ (.slice A k c)) := upd_set _ _ 3 _ (upd_set w1 _ 1 _ (Upd.refl _ w1))
  exact ⟨(t.bo.set 1 _).set 3 _, t.br.upd hu (by omega), ((liv_own ho).low hb).upd hu (fun k hk q => by omega), (liv_own t.own).upd hu (fun k hk q => by omega),
    Below.trans t.e (hu.below (Below.size t.e) fun k q => by omega), by omega⟩
end
end Go.Proofs.YtkafmpdjpjgkgaaDoor.Rn
/- DERIVED. The contract of the reference's New, of any number of words. By an AI agent. -/
namespace Go.Proofs.YtkafmpdjpjgkgaaDoor.MmR
open Go.ChangeShapes Go.WideShapes Go.ChangeAt Go.RowKit Args Mm
set_option linter.unusedVariables false
theorem ri_endn {n r cT c1 : Nat} {C T : List Int} {AT A1 : Option Addr} {w wr : World} (h : RI w.heap.size r C AT cT T C.length A1 c1 w wr) (hn : n ≤ 16000) (f : Fit ⟨C, noughts n, T, 0, 0⟩) :
    NewEnd 53 ⟨C, noughts n, T, 0, 0⟩ w (.returned (ptr r)) ((wr.alloc (.cells (noughtV n) 36)).setCell ⟨r, 1, none⟩ (.slice (some ⟨wr.heap.size, 0, none⟩) n n)) := by
  have hx : Ext wr (wr.alloc (.cells (noughtV n) 36)) := Ext.alloc _ _
  have hm : (wr.alloc (.cells (noughtV n) 36)).ownsRow w.heap.size 36 1 (.slice (some ⟨wr.heap.size, 0, none⟩) n n) n ((noughts n).map (.int .u32)) := own_low (World.ownsRow_lit (size := 1) wr (noughtV n) n (Nat.le_refl _) (by unfold maxLen; omega) (by simp [noughtV, noughts])) h.ext.size
  have hrl := h.blk.lt
  have hup : Upd (· = r) (wr.alloc (.cells (noughtV n) 36)) ((wr.alloc (.cells (noughtV n) 36)).setCell ⟨r, 1, none⟩ (.slice (some ⟨wr.heap.size, 0, none⟩) n n)) := (Upd.refl (· = r) _).setCell (p := ⟨r, 1, none⟩) (fun _ => rfl) _
  have htk : C.take C.length = C := List.take_length
  have hoc := h.oc
  rw [htk] at hoc
  refine ⟨⟨r, A1, c1, some ⟨wr.heap.size, 0, none⟩, n, AT, cT⟩, rfl, ⟨?_, own_upd (Ext.own hx hoc) hup fun k e e2 => h.rC (by rw [← e2]; exact e), ?_, own_upd (Ext.own hx h.ot) hup fun k e e2 => h.rT (by rw [← e2]; exact e), h.rC, fun e => ?_, h.rT, fun k hk => ?_, h.low, f⟩, ?_⟩
  · show Blk _ _ _ #[_, .slice _ (noughts n).length n, _, _, _]
    rw [noughts_len]
    exact (h.blk.alloc _).set 1 _
  · show World.ownsRow _ _ _ _ (.slice _ (noughts n).length n) (noughts n).length _
    rw [noughts_len]
    refine own_upd hm hup fun k e e2 => ?_
    have e3 : wr.heap.size = k := by injection e with e; injection e
    omega
  · have e3 : wr.heap.size = r := by injection e with e; injection e
    omega
  · cases hk
    exact ⟨own_ne h.oc (.inr (Nat.le_refl _)), own_ne h.ot (.inr (Nat.le_refl _))⟩
  · exact (h.ext.trans hx).setCell (p := ⟨r, 1, none⟩) h.low _
theorem ri_end0 {r cT c1 : Nat} {C T : List Int} {AT A1 : Option Addr} {w wr : World} (h : RI w.heap.size r C AT cT T C.length A1 c1 w wr) (f : Fit ⟨C, noughts 0, T, 0, 0⟩) :
    NewEnd 53 ⟨C, noughts 0, T, 0, 0⟩ w (.returned (ptr r)) wr := by
  have htk : C.take C.length = C := List.take_length
  have hoc := h.oc
  rw [htk] at hoc
  exact ⟨⟨r, A1, c1, none, 0, AT, cT⟩, rfl, ⟨h.blk, hoc, World.ownsRow_nil _ _ _ _, h.ot, h.rC, nofun, h.rT, nofun, h.low, f⟩, h.ext⟩
set_option maxRecDepth 100000 in
set_option maxHeartbeats 4000000 in
theorem new_n (n : Nat) (hn : n ≤ 16000) (A : Option Addr) (cC : Nat) (C : List Int) (AT : Option Addr) (cT : Nat) (T : List Int) (w : World) (hC : Lies w A (C.map (.int .u16))) (hT : Lies w AT (T.map (.int .u32)))
    (hc : C.length ≤ 300) (ht : T.length ≤ 100) (f : Fit ⟨C, noughts n, T, 0, 0⟩) :
    Calls Tryd.prog 21 #[.slice A C.length cC, (.int .i64 (n : Int)), .slice AT T.length cT] w (NewEnd 53 ⟨C, noughts n, T, 0, 0⟩ w) := by
  obtain ⟨i0, hi, hz0, hz1, hz2⟩ := info_parts info16
  obtain ⟨j0, hj, hy0, hy1, hy2⟩ := info_parts info32
  have HI := Lib.hid hi; have HZ0 := Lib.hid hz0; have HZ1 := Lib.hid hz1; have HZ2 := Lib.hid hz2
  have HJ := Lib.hid hj; have HY0 := Lib.hid hy0; have HY1 := Lib.hid hy1; have HY2 := Lib.hid hy2
  have HC := Lib.hid hC; have HF := Lib.hid f
  have HT := Lib.hid (hT.below ((Below.refl w.heap.size w).alloc (Nat.le_refl _) (.cells #[] 36)))
  have hci : (C.length : Int) ≤ 300 := by omega
  have HN := Lib.hid hn
  clear hn
  clear hi hz0 hz1 hz2 hj hy0 hy1 hy2 hC hT f
  go_enter Tryd.func21, Tryd.ntmps21
  go_wp2_with (at_builtin; refine wpList_fresh rfl (.tmp 9) (.tmp 10) 23 rfl w.heap.size 36 j0 (.int .u32 0) 1 4 Tryd.underlying23 HJ.out HY0.out HY1.out HY2.out rfl (by decide) _ 0 [] rfl (own_empty w (Nat.le_refl _) _ _) AT T.length cT (T.map (.int .u32)) rfl (by simp) HT.out (ints_one _ _) (by unfold maxLen; omega) (by omega) (by simp) ?_; intro A3 c3 w1 h1 h2 h3 h4; simp only [Nat.zero_add, List.nil_append] at h1 h3; have HO3 := Lib.hid h3; have HB1 := Lib.hid (fresh_ext h4); clear h1 h2 h3 h4; rw [Nat.zero_add])
  have h0 : RI w.heap.size w1.heap.size C A3 c3 T 0 none 0 w (w1.alloc (.cells #[.slice none 0 0, .slice none 0 0, .slice A3 T.length c3, .int .i64 0, .int .u32 0] 53)) :=
    ⟨Blk.new _ _ _, World.ownsRow_nil _ _ _ _, Ext.own (Ext.alloc _ _) HO3.out, nofun, own_ne HO3.out (.inr (Nat.le_refl _)), nofun, HB1.out.size, HB1.out.trans (Ext.alloc _ _)⟩
  have H0 := Lib.hid h0
  clear h0 HO3 HB1 HT HJ HY0 HY1 HY2
  generalize w1.heap.size = r at *
  generalize w1.alloc (.cells #[.slice none 0 0, .slice none 0 0, .slice A3 T.length c3, .int .i64 0, .int .u32 0] 53) = w2 at *
  go_loopw [8] (fun vi wr => ∃ k : Nat, k ≤ C.length ∧ vi = .int .i64 k ∧ Hid (∃ A1 c1, RI w.heap.size r C A3 c3 T k A1 c1 w wr)) (fun vi _ => C.length - (intOf vi).toNat)
  case atStart => exact ⟨0, by omega, rfl, Lib.hid ⟨none, 0, H0.out⟩⟩
  case round =>
    obtain ⟨k, hk, rfl, HH⟩ := hrel
    clear H0
    obtain ⟨A1, c1, hr⟩ := HH.out
    have hki : decide ((k : Int) < 60000) = true := by simp; omega
    by_cases hlt : k < C.length
    · have hcell : (C.map (Value.int .u16))[k]? = some (.int .u16 (C.getD k 0)) := by simp [List.getElem?_eq_getElem hlt, List.getD]
      obtain ⟨b, o, rfl, _, hcc⟩ := (hr.ext.lies HC.out).at_ hcell
      have e1 := hcc _ _ hcell
      have htk : (C.take k).map (Value.int .u16) ++ [.int .u16 (C.getD k 0)] = (C.take (k + 1)).map (.int .u16) := by
        rw [List.take_succ_eq_append_getElem hlt, List.map_append]
        simp [List.getD, List.getElem?_eq_getElem hlt]
      generalize C.getD k 0 = z at *
      have c0 : wr.cell? ⟨r, 0, none⟩ = some (.slice A1 k c1) := hr.blk.cell 0
      have HR := Lib.hid hr; have HTK := Lib.hid htk
      have hki2 : (k : Int) < (C.length : Int) := by omega
      have hk0 : (0 : Int) ≤ (k : Int) := by omega
      have HLT := Lib.hid hlt
      have HCL := Lib.hid hc; have HTL := Lib.hid ht
      clear hcell hcc hr HH htk hlt hk hci hc ht
      go_wp2_with fail
      have hnA : ∀ g, A1 = some ⟨g, 0, none⟩ → g ≠ r := fun g e h => HR.out.rC (by rw [e, h])
      have HNA := Lib.hid hnA
      clear hnA
      have HLN := Lib.hid (show Lies (wr.alloc (.cells #[.int .u16 z] 37)).drew (some ⟨wr.heap.size, 0, none⟩) [.int .u16 z] from fun j u hj => ⟨_, rfl, by rw [Args.add_plain, Nat.zero_add]; exact (show (wr.alloc (.cells #[.int .u16 z] 37)).cell? ⟨wr.heap.size, j, none⟩ = _ from World.cell?_alloc_at _ _ _ _ rfl).trans (by simpa using hj)⟩)
      have hb1 : k + 1 ≤ maxLen := by have := HLT.out; have := HCL.out; unfold maxLen; omega
      have hb2 : (k + 1) * 2 ≤ 140737488355328 := by have := HLT.out; have := HCL.out; omega
      have HM1 := Lib.hid hb1; have HM2 := Lib.hid hb2
      have HBS := Lib.hid (show w.heap.size ≤ (wr.alloc (.cells #[.int .u16 z] 37)).drew.heap.size from by simp only [World.size_drew, World.size_alloc]; have := HR.out.ext.size; omega)
      have hbk : ∀ w' : World, (wr.alloc (.cells #[.int .u16 z] 37)).drew.grownBy w' (Value.slice A1 k c1).ownBlock → Blk w' r 53 #[.slice A1 k c1, .slice none 0 0, .slice A3 T.length c3, .int .i64 0, .int .u32 0] := fun w' hg =>
        (hg.block r (by simp only [World.size_drew, World.size_alloc]; have := HR.out.blk.lt; omega) (fun e => by
          rcases own_form HR.out.oc with ⟨e1, _⟩ | ⟨g, e1, _⟩
          · rw [e1] at e; simp [Value.ownBlock] at e
          · rw [e1] at e; simp [Value.ownBlock] at e; exact HNA.out g e1 e.symm)).trans (HR.out.blk.alloc _)
      have HBK := Lib.hid hbk
      have c0b : (wr.alloc (.cells #[.int .u16 z] 37)).cell? ⟨r, 0, none⟩ = some (.slice A1 k c1) := (HR.out.blk.alloc (.cells #[.int .u16 z] 37)).cell 0
      clear hb1 hb2 hbk
      go_region_law (refine step_fresh rfl (.tmp 28) (.tmp 33) 22 rfl w.heap.size 37 i0 (.int .u16 0) 1 2 Tryd.underlying22 HI.out HZ0.out HZ1.out HZ2.out rfl (by decide) (.slice A1 k c1) k ((C.take k).map (.int .u16)) (by simp [Act.eval]) (World.ownsRow.drew (World.ownsRow.alloc HR.out.oc (.cells #[.int .u16 z] 37))) (some ⟨wr.heap.size, 0, none⟩) 1 1 [.int .u16 z] (by simp [Act.eval]) rfl HLN.out (by simp [Value.oneCell']) HM1.out HM2.out HBS.out ?_; intro A' c' w' h1 h2 h3 h4; have hbb := HBK.out w' h4; have d0 := hbb.cell 0; have d1 := hbb.frozen 0; have HO' := Lib.hid h3; have HG' := Lib.hid h4; have HB' := Lib.hid hbb; clear h1 h2 h3 h4 hbb)
      all_goals
        have hk9 : (k : Int) < 1000 := by have := HLT.out; have := HCL.out; omega
        go_wp2_with fail
        go_roundw
        case rel => exact ⟨k + 1, by have := HLT.out; omega, by go_num, Lib.hid ⟨A', c', ri_next HR.out rfl HTK.out HO'.out HG'.out HB'.out⟩⟩
        case measure => have := HLT.out; simp [intOf]; omega
    · obtain rfl : k = C.length := by omega
      have c1 := hr.blk.cell 1
      have f1 := hr.blk.frozen 1
      have hrl := hr.blk.lt
      have HR := Lib.hid hr
      clear hr HH hlt hk hci hc ht
      have hn1 : decide ((16000 : Int) < (n : Int)) = false := by have := HN.out; simp; omega
      by_cases h0 : n = 0
      · subst h0
        clear c1 f1 hrl
        have hn2 : ¬ (0 : Int) < ((0 : Nat) : Int) := by decide
        go_wp2_with fail
        go_ret
        exact ri_end0 HR.out HF.out
      · have hn2 : decide (0 < n) = true := by simp; omega
        clear h0
        have mk := make32 n HN.out
        go_upto_if 38 with fail
        go_upto_if 40 with fail
        clear hn1
        clear hn2
        go_wp2_with fail
        go_ret
        have hE := ri_endn HR.out HN.out HF.out
        rw [World.setCell_alloc_past _ _ _ _ hrl] at hE
        exact hE
end Go.Proofs.YtkafmpdjpjgkgaaDoor.MmR
