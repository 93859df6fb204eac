/- DERIVED. The contract of the reference's New. By an AI agent. -/
import Derived.Test.YtldfnjjgacieoaaMmLaw
import Derived.Deep.RegionLawGrows
namespace Go.Proofs.Ytldfnjjgacieoaa.MmR
open Go.ChangeShapes Go.WideShapes Go.ChangeAt Go.RowKit Args Mm
set_option linter.unusedVariables false
abbrev RP := PM 43 38 31
/-- What the loop over the code has made. -/
structure RI (n0 r : Nat) (C : List Int) (AT : Option Addr) (cT : Nat) (T : List Int) (k : Nat) (A1 : Option Addr) (c1 : Nat) (w wr : World) : Prop where
  blk : Blk wr r 43 #[.slice A1 k c1, .slice none 0 0, .slice AT T.length cT, .int .i64 0, .int .u32 0]
  oc : wr.ownsRow n0 38 1 (.slice A1 k c1) k ((C.take k).map (.int .u16))
  ot : wr.ownsRow n0 31 1 (.slice AT T.length cT) T.length (T.map (.int .u32))
  rC : A1 ≠ some ⟨r, 0, none⟩
  rT : AT ≠ some ⟨r, 0, none⟩
  ct : ∀ k, A1 = some ⟨k, 0, none⟩ → AT ≠ some ⟨k, 0, none⟩
  low : n0 ≤ r
  ext : Ext w wr
theorem own_heap {w : World} {base : Nat} {e : TypeId} {size n c g : Nat} {A : Option Addr} {xs : List Value} (h : w.ownsRow base e size (.slice A n c) n xs) (hA : A = some ⟨g, 0, none⟩) : ∃ cur, w.heap[g]? = some (.cells cur e (0, 0)) := by
  rcases h.2 with ⟨e1, _⟩ | ⟨g', cap, cur, e1, _, hg, _⟩
  · injection e1 with e1; rw [hA] at e1; cases e1
  · injection e1 with e1; rw [hA] at e1; cases e1; exact ⟨cur, hg⟩
theorem ri_next {n0 r cT k c1 c' : Nat} {C T : List Int} {AT A1 A' : Option Addr} {z : Int} {w wr w' : World} (h : RI n0 r C AT cT T k A1 c1 w wr) (hn : n0 = w.heap.size)
    (htk : (C.take k).map (Value.int .u16) ++ [.int .u16 z] = (C.take (k + 1)).map (.int .u16))
    (ho : w'.ownsRow n0 38 1 (.slice A' (k + 1) c') (k + 1) ((C.take k).map (Value.int .u16) ++ [.int .u16 z])) (hg : (wr.alloc (.cells #[.int .u16 z] 38)).drew.grownBy w' (Value.slice A1 k c1).ownBlock)
    (hb : Blk w' r 43 #[.slice A1 k c1, .slice none 0 0, .slice AT T.length cT, .int .i64 0, .int .u32 0]) :
    RI n0 r C AT cT T (k + 1) A' c' w (w'.setCell ⟨r, 0, none⟩ (.slice A' (k + 1) c')) := by
  have hr : A' ≠ some ⟨r, 0, none⟩ := fun e => by
    obtain ⟨cur, hc⟩ := own_heap ho e
    rw [show w'.heap[r]? = _ from hb] at hc
    injection hc with hc; injection hc with _ hc; exact absurd hc (by decide)
  have hup : Upd (· = r) w' (w'.setCell ⟨r, 0, none⟩ (.slice A' (k + 1) c')) := (Upd.refl (· = r) w').setCell (p := ⟨r, 0, none⟩) (fun _ => rfl) _
  have ho2 : w'.ownsRow n0 31 1 (.slice AT T.length cT) T.length (T.map (.int .u32)) := World.ownsRow.kept (World.ownsRow.drew (World.ownsRow.alloc h.ot _)) hg (by
    cases hAT : AT with
    | none => exact .inl rfl
    | some a =>
      right
      rcases own_form h.ot with ⟨e, _⟩ | ⟨g, e, _⟩
      · rw [hAT] at e; cases e
      · rw [hAT] at e; cases e
        rcases own_form h.oc with ⟨e2, _⟩ | ⟨g2, e2, _⟩
        · rw [e2]; simp [Value.ownBlock]
        · rw [e2]; simp only [Value.ownBlock]
          intro e3
          injection e3 with e3
          exact h.ct g2 e2 (by rw [hAT, e3]))
  have he : Below n0 w w' := by
    subst hn
    refine ((Below.alloc (show Below w.heap.size w wr from h.ext) h.ext.size (.cells #[.int .u16 z] 38)).drew).grown hg (by simp only [World.size_drew, World.size_alloc]; have := h.ext.size; omega) fun q hq => ?_
    rcases own_form h.oc with ⟨e, _⟩ | ⟨g, e, e2, _⟩
    · rw [e] at hq; simp [Value.ownBlock] at hq
    · rw [e] at hq; simp [Value.ownBlock] at hq; omega
  refine ⟨hb.set 0 _, ?_, own_upd ho2 hup fun q e e2 => h.rT (by rw [← e2]; exact e), hr, h.rT, fun q e1 e2 => ?_, h.low, ?_⟩
  · rw [← htk]
    exact own_upd ho hup fun q e e2 => hr (by rw [← e2]; exact e)
  · obtain ⟨c1, g1⟩ := own_heap ho e1
    obtain ⟨c2, g2⟩ := own_heap ho2 e2
    rw [g1] at g2
    injection g2 with g2; injection g2 with _ g2; exact absurd g2 (by decide)
  · subst hn
    exact he.setCell (p := ⟨r, 0, none⟩) h.low _
theorem ri_end {r cT c1 : Nat} {C T : List Int} {AT A1 : Option Addr} {w wr : World} (h : RI w.heap.size r C AT cT T C.length A1 c1 w wr) (f : Fit ⟨C, noughts 9, T, 0, 0⟩) :
    NewEnd 43 ⟨C, noughts 9, T, 0, 0⟩ w (.returned (ptr r)) ((wr.alloc (.cells (noughtV 9) 31)).setCell ⟨r, 1, none⟩ (.slice (some ⟨wr.heap.size, 0, none⟩) 9 9)) := by
  have hx : Ext wr (wr.alloc (.cells (noughtV 9) 31)) := Ext.alloc _ _
  have hm : (wr.alloc (.cells (noughtV 9) 31)).ownsRow w.heap.size 31 1 (.slice (some ⟨wr.heap.size, 0, none⟩) 9 9) 9 ((noughts 9).map (.int .u32)) := own_low (World.ownsRow_lit wr (noughtV 9) 9 (Nat.le_refl _) (by decide) (by decide)) h.ext.size
  have hrl := h.blk.lt
  have hup : Upd (· = r) (wr.alloc (.cells (noughtV 9) 31)) ((wr.alloc (.cells (noughtV 9) 31)).setCell ⟨r, 1, none⟩ (.slice (some ⟨wr.heap.size, 0, none⟩) 9 9)) := (Upd.refl (· = r) _).setCell (p := ⟨r, 1, none⟩) (fun _ => rfl) _
  have htk : C.take C.length = C := List.take_length
  have hoc := h.oc
  rw [htk] at hoc
  refine ⟨⟨r, A1, c1, some ⟨wr.heap.size, 0, none⟩, 9, AT, cT⟩, rfl, ⟨(h.blk.alloc _).set 1 _, own_upd (Ext.own hx hoc) hup fun k e e2 => h.rC (by rw [← e2]; exact e), own_upd hm hup fun k e e2 => ?_, own_upd (Ext.own hx h.ot) hup fun k e e2 => h.rT (by rw [← e2]; exact e), h.rC, fun e => ?_, h.rT, fun k hk => ?_, h.low, f⟩, ?_⟩
  · have e3 : wr.heap.size = k := by injection e with e; injection e
    omega
  · have e3 : wr.heap.size = r := by injection e with e; injection e
    omega
  · cases hk
    exact ⟨own_ne h.oc (.inr (Nat.le_refl _)), own_ne h.ot (.inr (Nat.le_refl _))⟩
  · exact (h.ext.trans hx).setCell (p := ⟨r, 1, none⟩) h.low _
set_option maxRecDepth 100000 in
set_option maxHeartbeats 4000000 in
theorem new_ (A : Option Addr) (cC : Nat) (C : List Int) (AT : Option Addr) (cT : Nat) (T : List Int) (w : World) (hC : Lies w A (C.map (.int .u16))) (hT : Lies w AT (T.map (.int .u32)))
    (hc : C.length ≤ 300) (ht : T.length ≤ 100) (f : Fit ⟨C, noughts 9, T, 0, 0⟩) :
    Calls Try.prog 10 #[.slice A C.length cC, .int .i64 9, .slice AT T.length cT] w (NewEnd 43 ⟨C, noughts 9, T, 0, 0⟩ w) := by
  obtain ⟨i0, hi, hz0, hz1, hz2⟩ := info_parts info16
  obtain ⟨j0, hj, hy0, hy1, hy2⟩ := info_parts info32
  have HI := Lib.hid hi; have HZ0 := Lib.hid hz0; have HZ1 := Lib.hid hz1; have HZ2 := Lib.hid hz2
  have HJ := Lib.hid hj; have HY0 := Lib.hid hy0; have HY1 := Lib.hid hy1; have HY2 := Lib.hid hy2
  have HC := Lib.hid hC; have HF := Lib.hid f
  have HT := Lib.hid (hT.below ((Below.refl w.heap.size w).alloc (Nat.le_refl _) (.cells #[] 31)))
  have hci : (C.length : Int) ≤ 300 := by omega
  clear hi hz0 hz1 hz2 hj hy0 hy1 hy2 hC hT f
  go_enter Try.func10, Try.ntmps10
  go_wp2_with (at_builtin; refine wpList_fresh rfl (.tmp 9) (.tmp 10) 23 rfl w.heap.size 31 j0 (.int .u32 0) 1 4 Try.underlying23 HJ.out HY0.out HY1.out HY2.out rfl (by decide) _ 0 [] rfl (own_empty w (Nat.le_refl _) _ _) AT T.length cT (T.map (.int .u32)) rfl (by simp) HT.out (ints_one _ _) (by unfold maxLen; omega) (by omega) (by simp) ?_; intro A3 c3 w1 h1 h2 h3 h4; simp only [Nat.zero_add, List.nil_append] at h1 h3; have HO3 := Lib.hid h3; have HB1 := Lib.hid (fresh_ext h4); clear h1 h2 h3 h4; rw [Nat.zero_add])
  have h0 : RI w.heap.size w1.heap.size C A3 c3 T 0 none 0 w (w1.alloc (.cells #[.slice none 0 0, .slice none 0 0, .slice A3 T.length c3, .int .i64 0, .int .u32 0] 43)) :=
    ⟨Blk.new _ _ _, World.ownsRow_nil _ _ _ _, Ext.own (Ext.alloc _ _) HO3.out, nofun, own_ne HO3.out (.inr (Nat.le_refl _)), nofun, HB1.out.size, HB1.out.trans (Ext.alloc _ _)⟩
  have H0 := Lib.hid h0
  clear h0 HO3 HB1 HT HJ HY0 HY1 HY2
  generalize w1.heap.size = r at *
  generalize w1.alloc (.cells #[.slice none 0 0, .slice none 0 0, .slice A3 T.length c3, .int .i64 0, .int .u32 0] 43) = w2 at *
  go_loopw [8] (fun vi wr => ∃ k : Nat, k ≤ C.length ∧ vi = .int .i64 k ∧ Hid (∃ A1 c1, RI w.heap.size r C A3 c3 T k A1 c1 w wr)) (fun vi _ => C.length - (intOf vi).toNat)
  case atStart => exact ⟨0, by omega, rfl, Lib.hid ⟨none, 0, H0.out⟩⟩
  case round =>
    obtain ⟨k, hk, rfl, HH⟩ := hrel
    clear H0
    obtain ⟨A1, c1, hr⟩ := HH.out
    have hki : decide ((k : Int) < 60000) = true := by simp; omega
    by_cases hlt : k < C.length
    · have hcell : (C.map (Value.int .u16))[k]? = some (.int .u16 (C.getD k 0)) := by simp [List.getElem?_eq_getElem hlt, List.getD]
      obtain ⟨b, o, rfl, _, hcc⟩ := (hr.ext.lies HC.out).at_ hcell
      have e1 := hcc _ _ hcell
      have htk : (C.take k).map (Value.int .u16) ++ [.int .u16 (C.getD k 0)] = (C.take (k + 1)).map (.int .u16) := by
        rw [List.take_succ_eq_append_getElem hlt, List.map_append]
        simp [List.getD, List.getElem?_eq_getElem hlt]
      generalize C.getD k 0 = z at *
      have c0 : wr.cell? ⟨r, 0, none⟩ = some (.slice A1 k c1) := hr.blk.cell 0
      have HR := Lib.hid hr; have HTK := Lib.hid htk
      have hki2 : (k : Int) < (C.length : Int) := by omega
      have hk0 : (0 : Int) ≤ (k : Int) := by omega
      have HLT := Lib.hid hlt
      have HCL := Lib.hid hc; have HTL := Lib.hid ht
      clear hcell hcc hr HH htk hlt hk hci hc ht
      go_wp2_with fail
      have hnA : ∀ g, A1 = some ⟨g, 0, none⟩ → g ≠ r := fun g e h => HR.out.rC (by rw [e, h])
      have HNA := Lib.hid hnA
      clear hnA
      have HLN := Lib.hid (show Lies (wr.alloc (.cells #[.int .u16 z] 38)).drew (some ⟨wr.heap.size, 0, none⟩) [.int .u16 z] from fun j u hj => ⟨_, rfl, by rw [Args.add_plain, Nat.zero_add]; exact (show (wr.alloc (.cells #[.int .u16 z] 38)).cell? ⟨wr.heap.size, j, none⟩ = _ from World.cell?_alloc_at _ _ _ _ rfl).trans (by simpa using hj)⟩)
      have hb1 : k + 1 ≤ maxLen := by have := HLT.out; have := HCL.out; unfold maxLen; omega
      have hb2 : (k + 1) * 2 ≤ 140737488355328 := by have := HLT.out; have := HCL.out; omega
      have HM1 := Lib.hid hb1; have HM2 := Lib.hid hb2
      have HBS := Lib.hid (show w.heap.size ≤ (wr.alloc (.cells #[.int .u16 z] 38)).drew.heap.size from by simp only [World.size_drew, World.size_alloc]; have := HR.out.ext.size; omega)
      have hbk : ∀ w' : World, (wr.alloc (.cells #[.int .u16 z] 38)).drew.grownBy w' (Value.slice A1 k c1).ownBlock → Blk w' r 43 #[.slice A1 k c1, .slice none 0 0, .slice A3 T.length c3, .int .i64 0, .int .u32 0] := fun w' hg =>
        (hg.block r (by simp only [World.size_drew, World.size_alloc]; have := HR.out.blk.lt; omega) (fun e => by
          rcases own_form HR.out.oc with ⟨e1, _⟩ | ⟨g, e1, _⟩
          · rw [e1] at e; simp [Value.ownBlock] at e
          · rw [e1] at e; simp [Value.ownBlock] at e; exact HNA.out g e1 e.symm)).trans (HR.out.blk.alloc _)
      have HBK := Lib.hid hbk
      have c0b : (wr.alloc (.cells #[.int .u16 z] 38)).cell? ⟨r, 0, none⟩ = some (.slice A1 k c1) := (HR.out.blk.alloc (.cells #[.int .u16 z] 38)).cell 0
      clear hb1 hb2 hbk
      go_region_law (refine step_fresh rfl (.tmp 28) (.tmp 33) 22 rfl w.heap.size 38 i0 (.int .u16 0) 1 2 Try.underlying22 HI.out HZ0.out HZ1.out HZ2.out rfl (by decide) (.slice A1 k c1) k ((C.take k).map (.int .u16)) (by simp [Act.eval]) (World.ownsRow.drew (World.ownsRow.alloc HR.out.oc (.cells #[.int .u16 z] 38))) (some ⟨wr.heap.size, 0, none⟩) 1 1 [.int .u16 z] (by simp [Act.eval]) rfl HLN.out (by simp [Value.oneCell']) HM1.out HM2.out HBS.out ?_; intro A' c' w' h1 h2 h3 h4; have hbb := HBK.out w' h4; have d0 := hbb.cell 0; have d1 := hbb.frozen 0; have HO' := Lib.hid h3; have HG' := Lib.hid h4; have HB' := Lib.hid hbb; clear h1 h2 h3 h4 hbb)
      all_goals
        have hk9 : (k : Int) < 1000 := by have := HLT.out; have := HCL.out; omega
        go_wp2_with fail
        go_roundw
        case rel => exact ⟨k + 1, by have := HLT.out; omega, by go_num, Lib.hid ⟨A', c', ri_next HR.out rfl HTK.out HO'.out HG'.out HB'.out⟩⟩
        case measure => have := HLT.out; simp [intOf]; omega
    · obtain rfl : k = C.length := by omega
      have c1 := hr.blk.cell 1
      have f1 := hr.blk.frozen 1
      have hrl := hr.blk.lt
      have mk : ∀ W : World, (Instr.makeSlice 23 (.int .i64 9) (.int .i64 9)).run Try.prog W = .ok (.slice (some ⟨W.heap.size, 0, none⟩) 9 9) (W.alloc (.cells (noughtV 9) 31)) := make32 9 (by decide)
      have HR := Lib.hid hr
      clear hr HH hlt hk hci hc ht
      go_wp2_with fail
      go_ret
      have hE := ri_end HR.out HF.out
      rw [World.setCell_alloc_past _ _ _ _ hrl] at hE
      exact hE
end Go.Proofs.Ytldfnjjgacieoaa.MmR
