/- DERIVED. RqSt, RqSm, RqMu in one text. By an AI agent. -/
import Derived.Test.YtokfmclbninkmaaGreatDoorZ07
import Derived.Test.YtokfmclbninkmaaGreatDoorZ18
import Derived.StillTailTactics
/- DERIVED. The box of the reference's parser, and its small functions. By an AI agent. -/
namespace Go.Proofs.YtokfmclbninkmaaGreatDoor.Pq
open Go Go.ChangeShapes Go.WideShapes Go.ChangeAt Go.RowKit Lx Args Pa
set_option linter.unusedVariables false
set_option linter.unusedSimpArgs false
attribute [local go_sem] fTk0 fTk1 fTk2
theorem fTk0 (k a : Int) (s : ByteArray) (w : World) : (Instr.field 69 (.agg #[.int .i64 k, .string s, .int .i64 a]) 0).run Tryz.prog w = .ok (.int .i64 k) w := by kernel_rfl
theorem fTk1 (k a : Int) (s : ByteArray) (w : World) : (Instr.field 69 (.agg #[.int .i64 k, .string s, .int .i64 a]) 1).run Tryz.prog w = .ok (.string s) w := by kernel_rfl
theorem fTk2 (k a : Int) (s : ByteArray) (w : World) : (Instr.field 69 (.agg #[.int .i64 k, .string s, .int .i64 a]) 2).run Tryz.prog w = .ok (.int .i64 a) w := by kernel_rfl
theorem Blk.c4 {w : World} {g : Nat} {t : TypeId} {a b c d : Value} (h : Blk w g t #[a, b, c, d]) : w.cell? ⟨g, 0, none⟩ = some a ∧ w.cell? ⟨g, 1, none⟩ = some b ∧ w.cell? ⟨g, 2, none⟩ = some c ∧ w.cell? ⟨g, 3, none⟩ = some d ∧ w.frozen? ⟨g, 0, none⟩ = false ∧ w.frozen? ⟨g, 1, none⟩ = false ∧ w.frozen? ⟨g, 2, none⟩ = false ∧ w.frozen? ⟨g, 3, none⟩ = false :=
  ⟨h.cell 0, h.cell 1, h.cell 2, h.cell 3, h.frozen 0, h.frozen 1, h.frozen 2, h.frozen 3⟩
/-- The box: tokens, of which l are left; the place and the number of what was wrong first. -/
structure QS (w : World) (bp : Nat) (l : List Tk) (ba wy : Nat) : Prop where
  ex : ∃ b o c, ∃ pre : List Tk, b < bp ∧ Blk w bp 50 #[.slice (some ⟨b, o, none⟩) (pre.length + l.length) c, .int .i64 (pre.length : Int), .int .i64 (ba : Int), .int .i64 (wy : Int)] ∧
    Lies w (some ⟨b, o, none⟩) ((pre ++ l).flatMap tkC) ∧ pre.length + l.length ≤ 4000
theorem QS.lt {w : World} {bp ba wy : Nat} {l : List Tk} (h : QS w bp l ba wy) : bp < w.heap.size := by
  obtain ⟨b, o, c, pre, _, hb, _⟩ := h; exact hb.lt
theorem QS.below {w w' : World} {bp ba wy : Nat} {l : List Tk} (h : QS w bp l ba wy) (hb : Below w.heap.size w w') : QS w' bp l ba wy := by
  obtain ⟨b, o, c, pre, hn, h1, h2, h3⟩ := h
  exact ⟨b, o, c, pre, hn, h1.below hb h1.lt, h2.below hb, h3⟩
theorem QS.far {X : Nat → Prop} {w w' : World} {bp ba wy : Nat} {l : List Tk} (h : QS w bp l ba wy) (hu : Upd X w w') (hX : ∀ b, X b → bp < b) : QS w' bp l ba wy := by
  obtain ⟨b, o, c, pre, hn, h1, h2, h3⟩ := h
  exact ⟨b, o, c, pre, hn, h1.upd hu fun hx => by have := hX bp hx; omega, hu.lies h2 fun b' o' e _ hx => by cases e; have := hX _ hx; omega, h3⟩
theorem flat_len (l : List Tk) : (l.flatMap tkC).length = l.length * 3 := by
  induction l with
  | nil => rfl
  | cons t l ih => rw [List.flatMap_cons, List.length_append, ih, List.length_cons]; show 3 + _ = _; omega
theorem flat_at (pre : List Tk) (t : Tk) (r : List Tk) (j : Nat) (hj : j < 3) : ((pre ++ t :: r).flatMap tkC)[pre.length * 3 + j]? = (tkC t)[j]? := by
  rw [List.flatMap_append, List.getElem?_append_right (by rw [flat_len]; omega), flat_len, show pre.length * 3 + j - pre.length * 3 = j by omega, List.flatMap_cons, List.getElem?_append_left (by show j < 3; exact hj)]
theorem QS.head {w : World} {bp ba wy : Nat} {t : Tk} {r : List Tk} (h : QS w bp (t :: r) ba wy) : ∃ b o c n, b < bp ∧ n + (r.length + 1) ≤ 4000 ∧ 0 ≤ c ∧ 0 ≤ c ∧
    (w.cell? ⟨bp, 0, none⟩ = some (.slice (some ⟨b, o, none⟩) (n + (r.length + 1)) c) ∧ w.cell? ⟨bp, 1, none⟩ = some (.int .i64 (n : Int)) ∧ w.cell? ⟨bp, 2, none⟩ = some (.int .i64 (ba : Int)) ∧ w.cell? ⟨bp, 3, none⟩ = some (.int .i64 (wy : Int))) ∧
    (w.frozen? ⟨bp, 0, none⟩ = false ∧ w.frozen? ⟨bp, 1, none⟩ = false ∧ w.frozen? ⟨bp, 2, none⟩ = false ∧ w.frozen? ⟨bp, 3, none⟩ = false) ∧
    w.cell? ⟨b, o + n * 3, none⟩ = some (.int .i64 (t.k : Int)) ∧ w.cell? ⟨b, o + n * 3 + 1, none⟩ = some (.string ⟨t.s.toArray⟩) ∧ w.cell? ⟨b, o + n * 3 + 2, none⟩ = some (.int .i64 (t.at_ : Int)) := by
  obtain ⟨b, o, c, pre, hn, h1, h2, h5⟩ := h
  have f0 := h2 (pre.length * 3 + 0) _ ((flat_at pre t r 0 (by decide)).trans rfl)
  have f1 := h2 (pre.length * 3 + 1) _ ((flat_at pre t r 1 (by decide)).trans rfl)
  have f2 := h2 (pre.length * 3 + 2) _ ((flat_at pre t r 2 (by decide)).trans rfl)
  obtain ⟨a0, e0, f0⟩ := f0; obtain ⟨a1, e1, f1⟩ := f1; obtain ⟨a2, e2, f2⟩ := f2
  cases e0; cases e1; cases e2
  rw [Args.add_plain] at f0 f1 f2
  rw [← Nat.add_assoc] at f0 f1 f2
  exact ⟨b, o, c, pre.length, hn, h5, Nat.zero_le _, Nat.zero_le _, ⟨h1.cell 0, h1.cell 1, h1.cell 2, h1.cell 3⟩, ⟨h1.frozen 0, h1.frozen 1, h1.frozen 2, h1.frozen 3⟩, f0, f1, f2⟩
/-- What was wrong is set. -/
theorem QS.wrong {w : World} {bp ba wy : Nat} {l : List Tk} (h : QS w bp l ba wy) (ba' wy' : Nat) : QS ((w.setCell ⟨bp, 2, none⟩ (.int .i64 (ba' : Int))).setCell ⟨bp, 3, none⟩ (.int .i64 (wy' : Int))) bp l ba' wy' := by
  obtain ⟨b, o, c, pre, hn, h1, h2, h3⟩ := h
  refine ⟨b, o, c, pre, hn, (h1.set 2 _).set 3 _, ?_, h3⟩
  exact (((Upd.refl (fun b => b = bp) w).setCell (fun _ => rfl) _).setCell (fun _ => rfl) _).lies h2 fun b' o' e _ hx => by cases e; omega
/-- One token on. -/
theorem QS.on {w : World} {bp ba wy n : Nat} {t : Tk} {r : List Tk} (h : QS w bp (t :: r) ba wy) (hn : w.cell? ⟨bp, 1, none⟩ = some (.int .i64 (n : Int))) : QS (w.setCell ⟨bp, 1, none⟩ (.int .i64 ((n : Int) + 1))) bp r ba wy := by
  obtain ⟨b, o, c, pre, hb, h1, h2, h5⟩ := h
  have e := h1.cell 1
  rw [hn] at e
  have e2 : n = pre.length := by simp at e; omega
  subst e2
  refine ⟨b, o, c, pre ++ [t], hb, ?_, ?_, by simp at h5 ⊢; omega⟩
  · have := h1.set 1 (.int .i64 ((pre.length : Int) + 1))
    have e3 : (pre ++ [t]).length + r.length = pre.length + (t :: r).length := by simp; omega
    have e4 : (((pre ++ [t]).length : Nat) : Int) = (pre.length : Int) + 1 := by simp
    rw [e3, e4]
    exact this
  · rw [List.append_assoc]
    exact ((Upd.refl (fun b => b = bp) w).setCell (fun _ => rfl) _).lies h2 fun b' o' e _ hx => by cases e; omega
set_option maxRecDepth 100000 in
theorem tok (w : World) (bp ba wy : Nat) (t : Tk) (r : List Tk) (hp : QS w bp (t :: r) ba wy) :
    Calls Tryz.prog 41 #[.pointer (some ⟨bp, 0, none⟩)] w fun e w' => e = .returned (.agg #[.int .i64 (t.k : Int), .string ⟨t.s.toArray⟩, .int .i64 (t.at_ : Int)]) ∧ Below w.heap.size w w' := by
  obtain ⟨w0, hw0⟩ : ∃ w0, w.alloc (.cells #[.int .i64 0, .string ⟨#[]⟩, .int .i64 0] 69) = w0 := ⟨_, rfl⟩
  have hb0 : Below w.heap.size w w0 := by rw [← hw0]; exact (Below.refl _ _).alloc (Nat.le_refl _) _
  have hB : Blk w0 w.heap.size 69 #[.int .i64 0, .string ⟨#[]⟩, .int .i64 0] := by rw [← hw0]; exact Blk.new _ _ _
  obtain ⟨b, o, c, n, hn, hl, hc, hm, ⟨c0, c1, c2, c3⟩, ⟨z0, z1, z2, z3⟩, f4, f5, f6⟩ := (hp.below hb0).head
  have hlt := (hp.below hb0).lt
  have hbl : b < w0.heap.size := World.block_lt_of_cell? w0 _ f4
  have hix : (n : Int) < (n : Int) + ((r.length : Int) + 1) := by omega
  have HN := Lib.hid hn; have HB0 := Lib.hid hb0; have HB := Lib.hid hB; have HW := Lib.hid hw0
  clear hn hp hb0 hB hw0
  go_enter Tryz.func41, Tryz.ntmps41
  go_wp2_with fail
  rw [HW.out]
  go_still_tail 10, (by kernel_rfl)
  change wpList _ _ _ _ _ w0.drew
  have hdr : Below w0.heap.size w0 w0.drew := below_drewN (Below.refl _ _) 1
  have hB1 : Blk w0.drew w.heap.size 69 #[.int .i64 0, .string ⟨#[]⟩, .int .i64 0] := HB.out.below hdr HB.out.lt
  have hb1 := HB0.out.trans (hdr.mono HB0.out.size)
  generalize w0.drew = w1 at hdr hB1 hb1 ⊢
  clear c0 c1 c2 c3 z0 z1 z2 z3 f4 f5 f6 hdr
  obtain ⟨e0, e1, e2, y0, y1, y2⟩ := Blk.c3 hB1
  have H1 := Lib.hid hB1; have HB1 := Lib.hid hb1
  clear hB1 hb1
  go_wp2_with fail
  refine bodyPost_ret (resTk rfl rfl (Blk.put3 H1.out _ _ _) rfl) rfl ⟨rfl, ?_⟩
  exact ((HB1.out.setCell (Nat.le_refl _) _).setCell (Nat.le_refl _) _).setCell (Nat.le_refl _) _
end Go.Proofs.YtokfmclbninkmaaGreatDoor.Pq
/- DERIVED. Contracts of the reference parser's bad, on, goes, must, name. By an AI agent. -/
namespace Go.Proofs.YtokfmclbninkmaaGreatDoor.Pq
open Go Go.ChangeShapes Go.WideShapes Go.ChangeAt Go.RowKit Lx Args Pa
set_option linter.unusedVariables false
set_option linter.unusedSimpArgs false
attribute [local go_sem] fTk0 fTk1 fTk2
abbrev vd : Ending := .returned (.tuple #[])
set_option maxRecDepth 100000 in
theorem bad_no (w : World) (bp ba wy er : Nat) (b : Bool) (t : Tk) (r : List Tk) (hp : QS w bp (t :: r) ba wy) (hb : b = false ∨ wy ≠ 0) :
    Calls Tryz.prog 54 #[.pointer (some ⟨bp, 0, none⟩), .bool b, .int .i64 (er : Int)] w fun e w' => e = vd ∧ w = w' := by
  obtain ⟨b', o, c, n, hn, hl, hc, hm, ⟨c0, c1, c2, c3⟩, ⟨z0, z1, z2, z3⟩, f4, f5, f6⟩ := hp.head
  have hlt := hp.lt
  have HN := Lib.hid hn
  clear hn hp
  rcases hb with rfl | hb
  · go_enter Tryz.func54, Tryz.ntmps54
    go_wp2_with fail
    first | go_end0 | skip
    all_goals first | exact ⟨rfl, rfl⟩ | refine bodyPost_ret (results_none rfl _ _ _) rfl ⟨rfl, rfl⟩
  · have hz : ((wy : Int) == 0) = false := by simp; omega
    cases b
    all_goals
      go_enter Tryz.func54, Tryz.ntmps54
      go_wp2_with fail
      first | go_end0 | skip
      all_goals first | exact ⟨rfl, rfl⟩ | refine bodyPost_ret (results_none rfl _ _ _) rfl ⟨rfl, rfl⟩
set_option maxRecDepth 100000 in
theorem bad_yes (w : World) (bp er : Nat) (t : Tk) (r : List Tk) (hp : QS w bp (t :: r) 0 0) :
    Calls Tryz.prog 54 #[.pointer (some ⟨bp, 0, none⟩), .bool true, .int .i64 (er : Int)] w fun e w' => e = vd ∧ QS w' bp (t :: r) t.at_ er ∧ UB bp w w' := by
  obtain ⟨b', o, c, n, hn, hl, hc, hm, ⟨c0, c1, c2, c3⟩, ⟨z0, z1, z2, z3⟩, f4, f5, f6⟩ := hp.head
  have hlt := hp.lt
  have HT := Lib.hid (tok w bp 0 0 t r hp)
  have HP := Lib.hid hp
  clear hn hp
  go_enter Tryz.func54, Tryz.ntmps54
  go_wp2_with fail
  refine HT.out.mono ?_
  rintro e w1 ⟨rfl, hb1⟩
  obtain ⟨b', o, c, n, hn, hl, hc, hm, ⟨c0, c1, c2, c3⟩, ⟨z0, z1, z2, z3⟩, f4, f5, f6⟩ := (HP.out.below hb1).head
  have HP1 := Lib.hid (HP.out.below hb1)
  have HU1 := Lib.hid (below_UB (bp := bp) hb1)
  have hlt1 := (HP.out.below hb1).lt
  clear hb1 hn
  go_wp2_with fail
  first | go_end0 | skip
  all_goals first | refine ⟨rfl, ?_, ?_⟩ | refine bodyPost_ret (results_none rfl _ _ _) rfl ⟨rfl, ?_, ?_⟩
  · exact HP1.out.wrong _ _
  · exact (HU1.out.setCell (fun _ => rfl) _).setCell (fun _ => rfl) _
set_option maxRecDepth 100000 in
theorem on_no (w : World) (bp ba wy : Nat) (t : Tk) (r : List Tk) (hp : QS w bp (t :: r) ba wy) (hb : wy ≠ 0) :
    Calls Tryz.prog 77 #[.pointer (some ⟨bp, 0, none⟩)] w fun e w' => e = vd ∧ Below w.heap.size w w' := by
  obtain ⟨b', o, c, n, hn, hl, hc, hm, ⟨c0, c1, c2, c3⟩, ⟨z0, z1, z2, z3⟩, f4, f5, f6⟩ := hp.head
  have hlt := hp.lt
  have hz : ((wy : Int) == 0) = false := by simp; omega
  clear hn hp
  go_enter Tryz.func77, Tryz.ntmps77
  go_wp2_with fail
  go_quiet (fail)
  go_wp2_with fail
  first | go_end0 | skip
  all_goals first | exact ⟨rfl, below_drewN (Below.refl _ _) _⟩ | refine bodyPost_ret (results_none rfl _ _ _) rfl ⟨rfl, below_drewN (Below.refl _ _) _⟩
set_option maxRecDepth 100000 in
theorem on_yes (w : World) (bp : Nat) (t : Tk) (r : List Tk) (hp : QS w bp (t :: r) 0 0) (hr : r ≠ []) :
    Calls Tryz.prog 77 #[.pointer (some ⟨bp, 0, none⟩)] w fun e w' => e = vd ∧ QS w' bp r 0 0 ∧ UB bp w w' := by
  obtain ⟨b', o, c, n, hn, hl, hc, hm, ⟨c0, c1, c2, c3⟩, ⟨z0, z1, z2, z3⟩, f4, f5, f6⟩ := hp.head
  have hlt := hp.lt
  have HO := Lib.hid fun k : Nat => (hp.below (below_drewN (Below.refl _ _) k)).on (n := n) (show (w.drewN k).cell? ⟨bp, 1, none⟩ = _ from c1)
  have hrl : 0 < r.length := List.length_pos_iff.2 hr
  clear hn hp hr
  go_enter Tryz.func77, Tryz.ntmps77
  go_wp2_with fail
  go_quiet (fail)
  go_wp2_with fail
  first | go_end0 | skip
  all_goals first | refine ⟨rfl, ?_, ?_⟩ | refine bodyPost_ret (results_none rfl _ _ _) rfl ⟨rfl, ?_, ?_⟩
  · exact HO.out _
  · exact (below_UB (bp := bp) (below_drewN (Below.refl _ _) _)).setCell (fun _ => rfl) _
set_option maxRecDepth 100000 in
theorem goes_no (w : World) (bp ba wy : Nat) (t : Tk) (r : List Tk) (b : Bs) (hp : QS w bp (t :: r) ba wy) (hb : wy ≠ 0 ∨ isS b t = false) :
    Calls Tryz.prog 69 #[.pointer (some ⟨bp, 0, none⟩), .string ⟨b.toArray⟩] w fun e w' => e = .returned (.bool false) ∧ Below w.heap.size w w' := by
  have HT := Lib.hid (tok w bp ba wy t r hp)
  have HP := Lib.hid hp
  have hlt := hp.lt
  have hc : wy ≠ 0 ∨ (wy = 0 ∧ t.k ≤ 2) ∨ (wy = 0 ∧ 2 < t.k ∧ (t.s == b) = false) := by
    by_cases h0 : wy = 0
    · rcases hb with hb | hb
      · exact absurd h0 hb
      · unfold isS at hb
        by_cases h2 : 2 < t.k
        · exact .inr (.inr ⟨h0, h2, by simpa [h2] using hb⟩)
        · exact .inr (.inl ⟨h0, by omega⟩)
    · exact .inl h0
  clear hp hb
  rcases hc with h | ⟨rfl, h⟩ | ⟨rfl, h, h3⟩
  · have hz : ((wy : Int) == 0) = false := by simp; omega
    go_enter Tryz.func69, Tryz.ntmps69
    go_wp2_with fail
    all_goals
      refine HT.out.mono ?_
      rintro e w1 ⟨rfl, hb1⟩
      obtain ⟨b', o, c, n, hn, hl, hc, hm, ⟨c0, c1, c2, c3⟩, ⟨z0, z1, z2, z3⟩, f4, f5, f6⟩ := (HP.out.below hb1).head
      have hlt1 := (HP.out.below hb1).lt
      have HB1 := Lib.hid hb1
      clear hb1 hn
      go_wp2_with fail
      go_ret
      exact ⟨rfl, HB1.out.alloc HB1.out.size _⟩
  · go_enter Tryz.func69, Tryz.ntmps69
    go_wp2_with fail
    all_goals
      refine HT.out.mono ?_
      rintro e w1 ⟨rfl, hb1⟩
      obtain ⟨b', o, c, n, hn, hl, hc, hm, ⟨c0, c1, c2, c3⟩, ⟨z0, z1, z2, z3⟩, f4, f5, f6⟩ := (HP.out.below hb1).head
      have hlt1 := (HP.out.below hb1).lt
      have HB1 := Lib.hid hb1
      clear hb1 hn
      go_wp2_with fail
      go_ret
      exact ⟨rfl, HB1.out.alloc HB1.out.size _⟩
  · go_enter Tryz.func69, Tryz.ntmps69
    go_wp2_with fail
    all_goals
      refine HT.out.mono ?_
      rintro e w1 ⟨rfl, hb1⟩
      obtain ⟨b', o, c, n, hn, hl, hc, hm, ⟨c0, c1, c2, c3⟩, ⟨z0, z1, z2, z3⟩, f4, f5, f6⟩ := (HP.out.below hb1).head
      have hlt1 := (HP.out.below hb1).lt
      have HB1 := Lib.hid hb1
      clear hb1 hn
      go_wp2_with fail
      go_ret
      exact ⟨rfl, HB1.out.alloc HB1.out.size _⟩
set_option maxRecDepth 100000 in
theorem goes_yes (w : World) (bp : Nat) (t : Tk) (r : List Tk) (b : Bs) (hp : QS w bp (t :: r) 0 0) (hb : isS b t = true) (hr : r ≠ []) :
    Calls Tryz.prog 69 #[.pointer (some ⟨bp, 0, none⟩), .string ⟨b.toArray⟩] w fun e w' => e = .returned (.bool true) ∧ QS w' bp r 0 0 ∧ UB bp w w' := by
  have HT := Lib.hid (tok w bp 0 0 t r hp)
  have HP := Lib.hid hp
  have hlt := hp.lt
  have HR := Lib.hid hr
  unfold isS at hb
  simp only [Bool.and_eq_true, decide_eq_true_eq] at hb
  obtain ⟨h2, h3⟩ := hb
  clear hp hr
  go_enter Tryz.func69, Tryz.ntmps69
  go_wp2_with fail
  refine HT.out.mono ?_
  rintro e w1 ⟨rfl, hb1⟩
  obtain ⟨b', o, c, n, hn, hl, hc, hm, ⟨c0, c1, c2, c3⟩, ⟨z0, z1, z2, z3⟩, f4, f5, f6⟩ := (HP.out.below hb1).head
  have hlt1 := (HP.out.below hb1).lt
  have HB1 := Lib.hid hb1
  have HO := Lib.hid fun (w2 : World) (h : Below w1.heap.size w1 w2) => on_yes w2 bp t r ((HP.out.below hb1).below h) HR.out
  clear hb1 hn
  go_wp2_with fail
  refine (HO.out _ ((Below.refl _ _).alloc (Nat.le_refl _) _)).mono ?_
  rintro e w2 ⟨rfl, hp2, hu2⟩
  have HP2 := Lib.hid hp2; have HU2 := Lib.hid (((below_UB (bp := bp) HB1.out).alloc _).trans hu2)
  clear hp2 hu2
  go_wp2_with fail
  go_ret
  exact ⟨rfl, HP2.out, HU2.out⟩
end Go.Proofs.YtokfmclbninkmaaGreatDoor.Pq
/- DERIVED. Contracts of the reference parser's must and name. By an AI agent. -/
namespace Go.Proofs.YtokfmclbninkmaaGreatDoor.Pq
open Go Go.ChangeShapes Go.WideShapes Go.ChangeAt Go.RowKit Lx Args Pa
set_option linter.unusedVariables false
set_option linter.unusedSimpArgs false
attribute [local go_sem] fTk0 fTk1 fTk2
set_option maxRecDepth 100000 in
theorem must_dead (w : World) (bp ba wy : Nat) (t : Tk) (r : List Tk) (b : Bs) (hp : QS w bp (t :: r) ba wy) (hw : wy ≠ 0) :
    Calls Tryz.prog 71 #[.pointer (some ⟨bp, 0, none⟩), .string ⟨b.toArray⟩] w fun e w' => e = vd ∧ Below w.heap.size w w' := by
  have HG := Lib.hid (goes_no w bp ba wy t r b hp (.inl hw))
  have HP := Lib.hid hp; have HZ := Lib.hid hw
  clear hp hw
  go_enter Tryz.func71, Tryz.ntmps71
  go_wp2_with fail
  refine HG.out.mono ?_
  rintro e w1 ⟨rfl, hb1⟩
  have HB := Lib.hid (bad_no w1 bp ba wy 100 true t r (HP.out.below hb1) (.inr HZ.out))
  have HB1 := Lib.hid hb1
  clear hb1
  go_wp2_with fail
  refine HB.out.mono ?_
  rintro e w2 ⟨rfl, rfl⟩
  go_wp2_with fail
  first | go_end0 | skip
  all_goals first | exact ⟨rfl, HB1.out⟩ | refine bodyPost_ret (results_none rfl _ _ _) rfl ⟨rfl, HB1.out⟩
set_option maxRecDepth 100000 in
theorem must_no (w : World) (bp : Nat) (t : Tk) (r : List Tk) (b : Bs) (hp : QS w bp (t :: r) 0 0) (hb : isS b t = false) :
    Calls Tryz.prog 71 #[.pointer (some ⟨bp, 0, none⟩), .string ⟨b.toArray⟩] w fun e w' => e = vd ∧ QS w' bp (t :: r) t.at_ 100 ∧ UB bp w w' := by
  have HG := Lib.hid (goes_no w bp 0 0 t r b hp (.inr hb))
  have HP := Lib.hid hp
  clear hp hb
  go_enter Tryz.func71, Tryz.ntmps71
  go_wp2_with fail
  refine HG.out.mono ?_
  rintro e w1 ⟨rfl, hb1⟩
  have HB := Lib.hid (bad_yes w1 bp 100 t r (HP.out.below hb1))
  have HU1 := Lib.hid (below_UB (bp := bp) hb1)
  clear hb1
  go_wp2_with fail
  refine HB.out.mono ?_
  rintro e w2 ⟨rfl, hp2, hu2⟩
  have HP2 := Lib.hid hp2; have HU2 := Lib.hid (HU1.out.trans hu2)
  clear hp2 hu2
  go_wp2_with fail
  first | go_end0 | skip
  all_goals first | exact ⟨rfl, HP2.out, HU2.out⟩ | refine bodyPost_ret (results_none rfl _ _ _) rfl ⟨rfl, HP2.out, HU2.out⟩
theorem QS.cons {w : World} {bp ba wy : Nat} {l : List Tk} (h : QS w bp l ba wy) (hl : l ≠ []) : ∃ t r, l = t :: r := by
  cases l with
  | nil => exact absurd rfl hl
  | cons t r => exact ⟨t, r, rfl⟩
set_option maxRecDepth 100000 in
theorem must_yes (w : World) (bp : Nat) (t : Tk) (r : List Tk) (b : Bs) (hp : QS w bp (t :: r) 0 0) (hb : isS b t = true) (hr : r ≠ []) :
    Calls Tryz.prog 71 #[.pointer (some ⟨bp, 0, none⟩), .string ⟨b.toArray⟩] w fun e w' => e = vd ∧ QS w' bp r 0 0 ∧ UB bp w w' := by
  have HG := Lib.hid (goes_yes w bp t r b hp hb hr)
  obtain ⟨u, q, rfl⟩ := List.exists_cons_of_ne_nil hr
  clear hp hb hr
  go_enter Tryz.func71, Tryz.ntmps71
  go_wp2_with fail
  refine HG.out.mono ?_
  rintro e w1 ⟨rfl, hp1, hu1⟩
  have HB := Lib.hid (bad_no w1 bp 0 0 100 false u q hp1 (.inl rfl))
  have HU1 := Lib.hid hu1; have HP1 := Lib.hid hp1
  clear hu1 hp1
  go_wp2_with fail
  refine HB.out.mono ?_
  rintro e w2 ⟨rfl, rfl⟩
  go_wp2_with fail
  first | go_end0 | skip
  all_goals first | exact ⟨rfl, HP1.out, HU1.out⟩ | refine bodyPost_ret (results_none rfl _ _ _) rfl ⟨rfl, HP1.out, HU1.out⟩
set_option maxRecDepth 100000 in
theorem name_dead (w : World) (bp ba wy : Nat) (t : Tk) (r : List Tk) (hp : QS w bp (t :: r) ba wy) (hw : wy ≠ 0) :
    Calls Tryz.prog 72 #[.pointer (some ⟨bp, 0, none⟩)] w fun e w' => e = .returned (.string ⟨t.s.toArray⟩) ∧ Below w.heap.size w w' := by
  have HT := Lib.hid fun (w' : World) (h : Below w.heap.size w w') => tok w' bp ba wy t r (hp.below h)
  have HP := Lib.hid hp; have HZ := Lib.hid hw
  clear hp hw
  go_enter Tryz.func72, Tryz.ntmps72
  go_wp2_with fail
  refine (HT.out _ (Below.refl _ _)).mono ?_
  rintro e w1 ⟨rfl, hb1⟩
  have HT1 := Lib.hid (HT.out w1 hb1)
  have HB1 := Lib.hid hb1
  clear hb1
  go_wp2_with fail
  refine HT1.out.mono ?_
  rintro e w2 ⟨rfl, hb2⟩
  have hb2' := HB1.out.trans (hb2.mono HB1.out.size)
  have HB2 := Lib.hid hb2'
  have HBD := Lib.hid fun b : Bool => bad_no w2 bp ba wy 100 b t r (HP.out.below hb2') (.inr HZ.out)
  have HON := Lib.hid (on_no w2 bp ba wy t r (HP.out.below hb2') HZ.out)
  clear hb2 hb2' HT HT1
  go_wp2_with fail
  all_goals
    refine (HBD.out _).mono ?_
    rintro e w' ⟨rfl, rfl⟩
    go_wp2_with fail
    refine HON.out.mono ?_
    rintro e w3 ⟨rfl, hb3⟩
    have HB3 := Lib.hid (HB2.out.trans (hb3.mono HB2.out.size))
    clear hb3
    go_wp2_with fail
    go_ret
    exact ⟨rfl, HB3.out⟩
set_option maxRecDepth 100000 in
theorem name_no (w : World) (bp : Nat) (t : Tk) (r : List Tk) (hp : QS w bp (t :: r) 0 0) (hk : t.k ≠ 1) :
    Calls Tryz.prog 72 #[.pointer (some ⟨bp, 0, none⟩)] w fun e w' => e = .returned (.string ⟨t.s.toArray⟩) ∧ QS w' bp (t :: r) t.at_ 100 ∧ UB bp w w' := by
  have HT := Lib.hid fun (w' : World) (h : Below w.heap.size w w') => tok w' bp 0 0 t r (hp.below h)
  have HP := Lib.hid hp
  have hq : ((t.k : Int) != 1) = true := by simp; omega
  have hq2 : ((t.k : Int) == 1) = false := by simp; omega
  clear hp hk
  go_enter Tryz.func72, Tryz.ntmps72
  go_wp2_with fail
  refine (HT.out _ (Below.refl _ _)).mono ?_
  rintro e w1 ⟨rfl, hb1⟩
  have HT1 := Lib.hid (HT.out w1 hb1)
  have HB1 := Lib.hid hb1
  clear hb1
  go_wp2_with fail
  refine HT1.out.mono ?_
  rintro e w2 ⟨rfl, hb2⟩
  have hb2' := HB1.out.trans (hb2.mono HB1.out.size)
  have HB2 := Lib.hid hb2'
  have HBD := Lib.hid (bad_yes w2 bp 100 t r (HP.out.below hb2'))
  clear hb2 hb2' HT HT1
  go_wp2_with fail
  refine HBD.out.mono ?_
  rintro e w3 ⟨rfl, hp3, hu3⟩
  have HON := Lib.hid (on_no w3 bp t.at_ 100 t r hp3 (by decide))
  have HP3 := Lib.hid hp3; have HU3 := Lib.hid ((below_UB (bp := bp) HB2.out).trans hu3)
  clear hp3 hu3
  go_wp2_with fail
  refine HON.out.mono ?_
  rintro e w4 ⟨rfl, hb4⟩
  have HP4 := Lib.hid (HP3.out.below hb4); have HU4 := Lib.hid (HU3.out.trans (below_UB hb4))
  clear hb4
  go_wp2_with fail
  go_ret
  exact ⟨rfl, HP4.out, HU4.out⟩
set_option maxRecDepth 100000 in
theorem name_yes (w : World) (bp : Nat) (t : Tk) (r : List Tk) (hp : QS w bp (t :: r) 0 0) (hk : t.k = 1) (hr : r ≠ []) :
    Calls Tryz.prog 72 #[.pointer (some ⟨bp, 0, none⟩)] w fun e w' => e = .returned (.string ⟨t.s.toArray⟩) ∧ QS w' bp r 0 0 ∧ UB bp w w' := by
  have hT : ∀ (w' : World) (h : Below w.heap.size w w'), _ := fun w' h => tok w' bp 0 0 t r (hp.below h)
  rw [hk] at hT
  have HT := Lib.hid hT
  have HP := Lib.hid hp; have HR := Lib.hid hr
  clear hp hk hr hT
  go_enter Tryz.func72, Tryz.ntmps72
  go_wp2_with fail
  refine (HT.out _ (Below.refl _ _)).mono ?_
  rintro e w1 ⟨rfl, hb1⟩
  have HT1 := Lib.hid (HT.out w1 hb1)
  have HB1 := Lib.hid hb1
  clear hb1
  go_wp2_with fail
  refine HT1.out.mono ?_
  rintro e w2 ⟨rfl, hb2⟩
  have hb2' := HB1.out.trans (hb2.mono HB1.out.size)
  have HB2 := Lib.hid hb2'
  have HBD := Lib.hid (bad_no w2 bp 0 0 100 false t r (HP.out.below hb2') (.inl rfl))
  have HON := Lib.hid (on_yes w2 bp t r (HP.out.below hb2') HR.out)
  clear hb2 hb2' HT HT1
  go_wp2_with fail
  refine HBD.out.mono ?_
  rintro e w' ⟨rfl, rfl⟩
  go_wp2_with fail
  refine HON.out.mono ?_
  rintro e w3 ⟨rfl, hp3, hu3⟩
  have HP3 := Lib.hid hp3; have HU3 := Lib.hid ((below_UB (bp := bp) HB2.out).trans hu3)
  clear hp3 hu3
  go_wp2_with fail
  go_ret
  exact ⟨rfl, HP3.out, HU3.out⟩
end Go.Proofs.YtokfmclbninkmaaGreatDoor.Pq
