/- DERIVED. PaSm, PaSn, PaSo in one text. By an AI agent. -/
import Derived.Test.YtkdpndoollbggaaDoorZ10
/- DERIVED. Contracts of the small functions of package parse. By an AI agent. -/
namespace Go.Proofs.YtkdpndoollbggaaDoor.Pa
open Go Go.ChangeShapes Go.WideShapes Go.ChangeAt Go.RowKit Lx Args
set_option linter.unusedVariables false
set_option linter.unusedSimpArgs false
theorem szTk : (Tryd.prog.info? 36).map (·.size) = some 3 := by kernel_rfl
theorem szNd : (Tryd.prog.info? 27).map (·.size) = some 6 := by kernel_rfl
theorem szWr : (Tryd.prog.info? 51).map (·.size) = some 2 := by kernel_rfl
theorem fTk0 (k a : Int) (s : ByteArray) (w : World) : (Instr.field 36 (.agg #[.int .i64 k, .string s, .int .i64 a]) 0).run Tryd.prog w = .ok (.int .i64 k) w := by kernel_rfl
theorem fTk1 (k a : Int) (s : ByteArray) (w : World) : (Instr.field 36 (.agg #[.int .i64 k, .string s, .int .i64 a]) 1).run Tryd.prog w = .ok (.string s) w := by kernel_rfl
theorem fTk2 (k a : Int) (s : ByteArray) (w : World) : (Instr.field 36 (.agg #[.int .i64 k, .string s, .int .i64 a]) 2).run Tryd.prog w = .ok (.int .i64 a) w := by kernel_rfl
attribute [local go_sem] fTk0 fTk1 fTk2
theorem resTk {fn : Func} {p : Tmp} (h : fn.results = #[.cell p 36]) {tmps : Array Value} {W : World} {g : Nat} {t : TypeId} {cs : Array Value} (hp : tmps.getD p undef = .pointer (some ⟨g, 0, none⟩)) (hg : Blk W g t cs) (hs : some 3 = some cs.size) :
    (results fn tmps).run Tryd.prog W = .ok (.agg cs) W := results_cell_row h tmps W g t cs (0, 0) _ hp hg Tryd.underlying36 rfl (szTk.trans hs)
theorem resNd {fn : Func} {p : Tmp} (h : fn.results = #[.cell p 27]) {tmps : Array Value} {W : World} {g : Nat} {t : TypeId} {cs : Array Value} (hp : tmps.getD p undef = .pointer (some ⟨g, 0, none⟩)) (hg : Blk W g t cs) (hs : some 6 = some cs.size) :
    (results fn tmps).run Tryd.prog W = .ok (.agg cs) W := results_cell_row h tmps W g t cs (0, 0) _ hp hg Tryd.underlying27 rfl (szNd.trans hs)
theorem resWr {fn : Func} {p : Tmp} (h : fn.results = #[.cell p 51]) {tmps : Array Value} {W : World} {g : Nat} {t : TypeId} {cs : Array Value} (hp : tmps.getD p undef = .pointer (some ⟨g, 0, none⟩)) (hg : Blk W g t cs) (hs : some 2 = some cs.size) :
    (results fn tmps).run Tryd.prog W = .ok (.agg cs) W := results_cell_row h tmps W g t cs (0, 0) _ hp hg Tryd.underlying51 rfl (szWr.trans hs)
theorem Blk.put2 {w : World} {g : Nat} {t : TypeId} {a b : Value} (h : Blk w g t #[a, b]) (a' b' : Value) : Blk ((w.setCell ⟨g, 0, none⟩ a').setCell ⟨g, 1, none⟩ b') g t #[a', b'] := (h.set 0 a').set 1 b'
theorem Blk.put3 {w : World} {g : Nat} {t : TypeId} {a b c : Value} (h : Blk w g t #[a, b, c]) (a' b' c' : Value) : Blk (((w.setCell ⟨g, 0, none⟩ a').setCell ⟨g, 1, none⟩ b').setCell ⟨g, 2, none⟩ c') g t #[a', b', c'] := ((h.set 0 a').set 1 b').set 2 c'
def put6 (w : World) (g : Nat) (a b c d e f : Value) : World := (((((w.setCell ⟨g, 0, none⟩ a).setCell ⟨g, 1, none⟩ b).setCell ⟨g, 2, none⟩ c).setCell ⟨g, 3, none⟩ d).setCell ⟨g, 4, none⟩ e).setCell ⟨g, 5, none⟩ f
theorem Blk.put6 {w : World} {g : Nat} {t : TypeId} {a b c d e f : Value} (h : Blk w g t #[a, b, c, d, e, f]) (a' b' c' d' e' f' : Value) : Blk (put6 w g a' b' c' d' e' f') g t #[a', b', c', d', e', f'] := (((((h.set 0 a').set 1 b').set 2 c').set 3 d').set 4 e').set 5 f'
theorem put6_far {w : World} {g g0 : Nat} {t : TypeId} {cs : Array Value} (h : Blk w g t cs) (hg : g ≠ g0) (a b c d e f : Value) : Blk (put6 w g0 a b c d e f) g t cs := (((((h.far (p := ⟨g0, 0, none⟩) hg a).far (p := ⟨g0, 1, none⟩) hg b).far (p := ⟨g0, 2, none⟩) hg c).far (p := ⟨g0, 3, none⟩) hg d).far (p := ⟨g0, 4, none⟩) hg e).far (p := ⟨g0, 5, none⟩) hg f
theorem put6_upd {X : Nat → Prop} {w0 w : World} {g : Nat} (h : Upd X w0 w) (hg : g < w0.heap.size → X g) (a b c d e f : Value) : Upd X w0 (put6 w g a b c d e f) :=
  (((((h.setCell (p := ⟨g, 0, none⟩) hg a).setCell (p := ⟨g, 1, none⟩) hg b).setCell (p := ⟨g, 2, none⟩) hg c).setCell (p := ⟨g, 3, none⟩) hg d).setCell (p := ⟨g, 4, none⟩) hg e).setCell (p := ⟨g, 5, none⟩) hg f
theorem next (w : World) (bp d : Nat) (t : Tk) (r : List Tk) (hp : PS w bp (t :: r) d) :
    Calls Tryd.prog 23 #[.pointer (some ⟨bp, 0, none⟩)] w fun e w' => e = .returned (.agg #[.int .i64 (t.k : Int), .string ⟨t.s.toArray⟩, .int .i64 (t.at_ : Int)]) ∧ Below w.heap.size w w' := by
  obtain ⟨b, o, c, hn, hc1, hc2, f0, f1, f2, f3, f4, f5, f6⟩ := hp.head
  have hlt := hp.lt
  have hbl : b < w.heap.size := World.block_lt_of_cell? w _ f4
  have HN := Lib.hid hn
  clear hn hp
  go_enter Tryd.func23, Tryd.ntmps23
  go_wp2_with fail
  refine bodyPost_ret (resTk rfl rfl (Blk.new _ _ _) rfl) rfl ⟨rfl, ?_⟩
  exact (Below.refl _ _).alloc (Nat.le_refl _) _
theorem below_UB {bp : Nat} {w w' : World} (h : Below w.heap.size w w') : UB bp w w' := Upd.of_below h _
set_option maxRecDepth 100000 in
/-- What is given up with. -/
theorem here (w : World) (bp d : Nat) (t : Tk) (r : List Tk) (er : Int) (hp : PS w bp (t :: r) d) :
    Calls Tryd.prog 24 #[.pointer (some ⟨bp, 0, none⟩), .int .i64 er] w fun e w' => e = .returned (.agg #[.int .i64 (t.at_ : Int), .int .i64 er]) ∧ Below w.heap.size w w' := by
  obtain ⟨w0, hw0⟩ : ∃ w0, w.alloc (.cells #[.int .i64 0, .int .i64 0] 51) = w0 := ⟨_, rfl⟩
  have hb0 : Below w.heap.size w w0 := by rw [← hw0]; exact (Below.refl _ _).alloc (Nat.le_refl _) _
  have hB : Blk w0 w.heap.size 51 #[.int .i64 0, .int .i64 0] := by rw [← hw0]; exact Blk.new _ _ _
  have HN := Lib.hid (next w0 bp d t r (hp.below hb0))
  have HB0 := Lib.hid hb0; have HB := Lib.hid hB; have HW := Lib.hid hw0
  clear hb0 hB hp hw0
  go_enter Tryd.func24, Tryd.ntmps24
  go_wp2_with fail
  rw [HW.out]
  refine HN.out.mono ?_
  rintro e w1 ⟨rfl, hb1⟩
  have hlt := HB.out.lt
  have h1 : Blk w1 w.heap.size 51 #[.int .i64 0, .int .i64 0] := HB.out.below hb1 hlt
  have c0 : w1.cell? ⟨w.heap.size, 0, none⟩ = some (.int .i64 0) := h1.cell 0
  have c1 : w1.cell? ⟨w.heap.size, 1, none⟩ = some (.int .i64 0) := h1.cell 1
  have z0 := h1.frozen 0; have z1 := h1.frozen 1
  have H1 := Lib.hid h1
  have HB1 := Lib.hid (HB0.out.trans (hb1.mono HB0.out.size))
  clear h1 hb1
  go_wp2_with fail
  refine bodyPost_ret (resWr rfl rfl (Blk.put2 H1.out _ _) rfl) rfl ⟨rfl, ?_⟩
  exact (HB1.out.setCell (Nat.le_refl _) _).setCell (Nat.le_refl _) _
end Go.Proofs.YtkdpndoollbggaaDoor.Pa
/- DERIVED. Contracts of package parse's is, take, must, name. By an AI agent. -/
namespace Go.Proofs.YtkdpndoollbggaaDoor.Pa
open Go Go.ChangeShapes Go.WideShapes Go.ChangeAt Go.RowKit Lx Args
set_option linter.unusedVariables false
set_option linter.unusedSimpArgs false
attribute [local go_sem] fTk0 fTk1 fTk2
set_option maxRecDepth 100000 in
theorem is_ (w : World) (bp d : Nat) (t : Tk) (r : List Tk) (b : Bs) (hp : PS w bp (t :: r) d) :
    Calls Tryd.prog 42 #[.pointer (some ⟨bp, 0, none⟩), .string ⟨b.toArray⟩] w fun e w' => e = .returned (.bool (t.s == b)) ∧ Below w.heap.size w w' := by
  have HN := Lib.hid (next w bp d t r hp)
  clear hp
  go_enter Tryd.func42, Tryd.ntmps42
  go_wp2_with fail
  refine HN.out.mono ?_
  rintro e w1 ⟨rfl, hb1⟩
  have HB1 := Lib.hid hb1
  clear hb1
  go_wp2_with fail
  go_ret
  exact ⟨rfl, HB1.out⟩
set_option maxRecDepth 100000 in
theorem take (w : World) (bp d : Nat) (t : Tk) (r : List Tk) (hp : PS w bp (t :: r) d) (hr : r ≠ []) :
    Calls Tryd.prog 32 #[.pointer (some ⟨bp, 0, none⟩)] w fun e w' => e = .returned (.agg #[.int .i64 (t.k : Int), .string ⟨t.s.toArray⟩, .int .i64 (t.at_ : Int)]) ∧ PS w' bp r d ∧ UB bp w w' := by
  obtain ⟨w0, hw0⟩ : ∃ w0, w.alloc (.cells #[.int .i64 0, .string ⟨#[]⟩, .int .i64 0] 36) = w0 := ⟨_, rfl⟩
  have hb0 : Below w.heap.size w w0 := by rw [← hw0]; exact (Below.refl _ _).alloc (Nat.le_refl _) _
  have hB : Blk w0 w.heap.size 36 #[.int .i64 0, .string ⟨#[]⟩, .int .i64 0] := by rw [← hw0]; exact Blk.new _ _ _
  have hlt := hp.lt
  have HN := Lib.hid (next w0 bp d t r (hp.below hb0))
  have HP := Lib.hid (hp.below hb0)
  have HB0 := Lib.hid hb0; have HB := Lib.hid hB; have HW := Lib.hid hw0
  clear hb0 hB hp hw0
  go_enter Tryd.func32, Tryd.ntmps32
  go_wp2_with fail
  rw [HW.out]
  refine HN.out.mono ?_
  rintro e w1 ⟨rfl, hb1⟩
  obtain ⟨b, o, c, hn, hc1, hc2, f0, f1, f2, f3, f4, f5, f6⟩ := (HP.out.below hb1).head
  have HP1 := Lib.hid (HP.out.below hb1)
  have hlt1 := (HP.out.below hb1).lt
  have hlt0 := HB.out.lt
  have h1 : Blk w1 w.heap.size 36 #[.int .i64 0, .string ⟨#[]⟩, .int .i64 0] := HB.out.below hb1 hlt0
  have HB1 := Lib.hid (HB0.out.trans (hb1.mono HB0.out.size))
  have H1 := Lib.hid h1
  have hrl : r.length ≠ 0 := fun h => hr (List.length_eq_zero_iff.1 h)
  have hne : w.heap.size ≠ bp := by omega
  have hlg : w.heap.size < w1.heap.size := h1.lt
  obtain ⟨e0, e1, e2, z0, z1, z2⟩ := Blk.c3 h1
  have HF0 := Lib.hid f0
  clear h1 hb1 hr f1 f3 f4 f5 f6
  go_wp2_with fail
  refine bodyPost_ret (resTk rfl rfl ((Blk.put3 (H1.out.far hne _) _ _ _).alloc _) rfl) rfl ⟨rfl, ?_, ?_⟩
  · exact (PS.take HP1.out HF0.out).far ((((((Upd.refl (fun b => bp < b) _).setCell (fun _ => hlt) _).setCell (fun _ => hlt) _).setCell (fun _ => hlt) _).alloc _)) (fun _ h => h)
  · have hg : ∀ q : Nat, w.heap.size < w.heap.size → q = bp := fun q h => absurd h (Nat.lt_irrefl _)
    exact ((((((below_UB (bp := bp) HB1.out).setCell (fun _ => rfl) _).setCell (hg _) _).setCell (hg _) _).setCell (hg _) _).alloc _)
/-- What is given up with, as it goes up. -/
abbrev panV (a er : Nat) : Ending := .panicked [{ v := .iface 51 (.agg #[.int .i64 (a : Int), .int .i64 (er : Int)]), recovered := false }]
set_option maxRecDepth 100000 in
theorem must_no (w : World) (bp d : Nat) (t : Tk) (r : List Tk) (b : Bs) (hp : PS w bp (t :: r) d) (hb : (t.s == b) = false) :
    Calls Tryd.prog 40 #[.pointer (some ⟨bp, 0, none⟩), .string ⟨b.toArray⟩] w fun e w' => e = panV t.at_ 100 ∧ UB bp w w' := by
  obtain ⟨w0, hw0⟩ : ∃ w0, w.alloc (.cells #[.int .i64 0, .string ⟨#[]⟩, .int .i64 0] 36) = w0 := ⟨_, rfl⟩
  have hb0 : Below w.heap.size w w0 := by rw [← hw0]; exact (Below.refl _ _).alloc (Nat.le_refl _) _
  have hI := is_ w0 bp d t r b (hp.below hb0)
  rw [hb] at hI
  have HI := Lib.hid hI
  have HP := Lib.hid (hp.below hb0)
  have HB0 := Lib.hid hb0; have HW := Lib.hid hw0
  clear hb0 hp hw0 hI hb
  go_enter Tryd.func40, Tryd.ntmps40
  go_wp2_with fail
  rw [HW.out]
  refine HI.out.mono ?_
  rintro e w1 ⟨rfl, hb1⟩
  have HH := Lib.hid (here w1 bp d t r 100 (HP.out.below hb1))
  have HB1 := Lib.hid (HB0.out.trans (hb1.mono HB0.out.size))
  clear hb1
  go_wp2_with fail
  refine HH.out.mono ?_
  rintro e w2 ⟨rfl, hb2⟩
  have HB2 := Lib.hid (HB1.out.trans (hb2.mono HB1.out.size))
  clear hb2
  go_wp2_with fail
  exact ⟨rfl, rfl, below_UB HB2.out⟩
end Go.Proofs.YtkdpndoollbggaaDoor.Pa
/- DERIVED. Contracts of package parse's must, name, node, sign. By an AI agent. -/
namespace Go.Proofs.YtkdpndoollbggaaDoor.Pa
open Go Go.ChangeShapes Go.WideShapes Go.ChangeAt Go.RowKit Lx Args
set_option linter.unusedVariables false
set_option linter.unusedSimpArgs false
attribute [local go_sem] fTk0 fTk1 fTk2
set_option maxRecDepth 100000 in
theorem must_yes (w : World) (bp d : Nat) (t : Tk) (r : List Tk) (b : Bs) (hp : PS w bp (t :: r) d) (hb : (t.s == b) = true) (hr : r ≠ []) :
    Calls Tryd.prog 40 #[.pointer (some ⟨bp, 0, none⟩), .string ⟨b.toArray⟩] w fun e w' => e = .returned (.agg #[.int .i64 (t.k : Int), .string ⟨t.s.toArray⟩, .int .i64 (t.at_ : Int)]) ∧ PS w' bp r d ∧ UB bp w w' := by
  obtain ⟨w0, hw0⟩ : ∃ w0, w.alloc (.cells #[.int .i64 0, .string ⟨#[]⟩, .int .i64 0] 36) = w0 := ⟨_, rfl⟩
  have hb0 : Below w.heap.size w w0 := by rw [← hw0]; exact (Below.refl _ _).alloc (Nat.le_refl _) _
  have hB : Blk w0 w.heap.size 36 #[.int .i64 0, .string ⟨#[]⟩, .int .i64 0] := by rw [← hw0]; exact Blk.new _ _ _
  have hlt := hp.lt
  have hI := is_ w0 bp d t r b (hp.below hb0)
  rw [hb] at hI
  have HI := Lib.hid hI
  have HP := Lib.hid (hp.below hb0)
  have HB0 := Lib.hid hb0; have HB := Lib.hid hB; have HW := Lib.hid hw0; have HR := Lib.hid hr
  clear hb0 hp hw0 hI hb hB hr
  go_enter Tryd.func40, Tryd.ntmps40
  go_wp2_with fail
  rw [HW.out]
  refine HI.out.mono ?_
  rintro e w1 ⟨rfl, hb1⟩
  have HT := Lib.hid (take w1 bp d t r (HP.out.below hb1) HR.out)
  have HB1 := Lib.hid (HB.out.below hb1 HB.out.lt)
  have HU1 := Lib.hid ((below_UB (bp := bp) HB0.out).trans (below_UB (bp := bp) hb1))
  clear hb1
  go_wp2_with fail
  refine HT.out.mono ?_
  rintro e w2 ⟨rfl, hp2, hu2⟩
  have h2 : Blk w2 w.heap.size 36 #[.int .i64 0, .string ⟨#[]⟩, .int .i64 0] := HB1.out.upd hu2 (by omega)
  obtain ⟨e0, e1, e2, z0, z1, z2⟩ := Blk.c3 h2
  have H2 := Lib.hid h2; have HP2 := Lib.hid hp2; have HU2 := Lib.hid (HU1.out.trans hu2)
  clear h2 hp2 hu2
  go_wp2_with fail
  refine bodyPost_ret (resTk rfl rfl (Blk.put3 H2.out _ _ _) rfl) rfl ⟨rfl, ?_, ?_⟩
  · exact HP2.out.far ((((Upd.refl (fun b => bp < b) _).setCell (fun _ => hlt) _).setCell (fun _ => hlt) _).setCell (fun _ => hlt) _) (fun _ h => h)
  · have hg : ∀ q : Nat, w.heap.size < w.heap.size → q = bp := fun q h => absurd h (Nat.lt_irrefl _)
    exact (((HU2.out.setCell (hg _) _).setCell (hg _) _).setCell (hg _) _)
set_option maxRecDepth 100000 in
theorem name_no (w : World) (bp d : Nat) (t : Tk) (r : List Tk) (hp : PS w bp (t :: r) d) (hk : t.k ≠ 1) :
    Calls Tryd.prog 41 #[.pointer (some ⟨bp, 0, none⟩)] w fun e w' => e = panV t.at_ 100 ∧ UB bp w w' := by
  have HN := Lib.hid (next w bp d t r hp)
  have HP := Lib.hid hp
  have hq : ((t.k : Int) != 1) = true := by simp; omega
  clear hp hk
  go_enter Tryd.func41, Tryd.ntmps41
  go_wp2_with fail
  refine HN.out.mono ?_
  rintro e w1 ⟨rfl, hb1⟩
  have HH := Lib.hid (here w1 bp d t r 100 (HP.out.below hb1))
  have HB1 := Lib.hid hb1
  clear hb1
  go_wp2_with fail
  refine HH.out.mono ?_
  rintro e w2 ⟨rfl, hb2⟩
  have HB2 := Lib.hid (HB1.out.trans (hb2.mono HB1.out.size))
  clear hb2
  go_wp2_with fail
  exact ⟨rfl, rfl, below_UB HB2.out⟩
set_option maxRecDepth 100000 in
theorem name_yes (w : World) (bp d : Nat) (t : Tk) (r : List Tk) (hp : PS w bp (t :: r) d) (hk : t.k = 1) (hr : r ≠ []) :
    Calls Tryd.prog 41 #[.pointer (some ⟨bp, 0, none⟩)] w fun e w' => e = .returned (.string ⟨t.s.toArray⟩) ∧ PS w' bp r d ∧ UB bp w w' := by
  have hn := next w bp d t r hp
  rw [hk] at hn
  have HN := Lib.hid hn
  have HP := Lib.hid hp; have HR := Lib.hid hr
  clear hp hk hn hr
  go_enter Tryd.func41, Tryd.ntmps41
  go_wp2_with fail
  refine HN.out.mono ?_
  rintro e w1 ⟨rfl, hb1⟩
  have HT := Lib.hid (take w1 bp d t r (HP.out.below hb1) HR.out)
  have HU1 := Lib.hid (below_UB (bp := bp) hb1)
  clear hb1
  go_wp2_with fail
  refine HT.out.mono ?_
  rintro e w2 ⟨rfl, hp2, hu2⟩
  have HP2 := Lib.hid hp2; have HU2 := Lib.hid (HU1.out.trans hu2)
  clear hp2 hu2
  go_wp2_with fail
  go_ret
  exact ⟨rfl, HP2.out, HU2.out⟩
set_option maxRecDepth 100000 in
theorem node (w : World) (k a : Nat) (s : Bs) (A : Option Addr) (la cA : Nat) :
    Calls Tryd.prog 26 #[.int .i64 (k : Int), .string ⟨s.toArray⟩, .int .i64 (a : Int), .slice A la cA] w fun e w' =>
      e = .returned (.agg #[.int .i64 (k : Int), .string ⟨s.toArray⟩, .int .u32 0, .int .i64 (a : Int), .slice A la cA, .slice none 0 0]) ∧ Below w.heap.size w w' := by
  go_enter Tryd.func26, Tryd.ntmps26
  go_wp2_with fail
  refine bodyPost_ret (resNd rfl rfl (Blk.new _ _ _) rfl) rfl ⟨rfl, ?_⟩
  exact (Below.refl _ _).alloc (Nat.le_refl _) _
set_option maxRecDepth 100000 in
theorem sign (w : World) (s : Bs) :
    Calls Tryd.prog 45 #[.string ⟨s.toArray⟩] w fun e w' => e = .returned (.tuple #[.int .i64 (kindT s : Int), .int .i64 (levT s : Int)]) ∧ w = w' := by
  by_cases h0 : s = [124]
  · subst h0
    go_enter Tryd.func45, Tryd.ntmps45
    go_wp2_with fail
    go_ret2
    exact ⟨rfl, rfl⟩
  by_cases h1 : s = [94]
  · subst h1
    go_enter Tryd.func45, Tryd.ntmps45
    go_wp2_with fail
    go_ret2
    exact ⟨rfl, rfl⟩
  by_cases h2 : s = [38]
  · subst h2
    go_enter Tryd.func45, Tryd.ntmps45
    go_wp2_with fail
    go_ret2
    exact ⟨rfl, rfl⟩
  by_cases h3 : s = [60, 60]
  · subst h3
    go_enter Tryd.func45, Tryd.ntmps45
    go_wp2_with fail
    go_ret2
    exact ⟨rfl, rfl⟩
  by_cases h4 : s = [62, 62]
  · subst h4
    go_enter Tryd.func45, Tryd.ntmps45
    go_wp2_with fail
    go_ret2
    exact ⟨rfl, rfl⟩
  by_cases h5 : s = [60, 60, 60]
  · subst h5
    go_enter Tryd.func45, Tryd.ntmps45
    go_wp2_with fail
    go_ret2
    exact ⟨rfl, rfl⟩
  by_cases h6 : s = [43]
  · subst h6
    go_enter Tryd.func45, Tryd.ntmps45
    go_wp2_with fail
    go_ret2
    exact ⟨rfl, rfl⟩
  by_cases h7 : s = [45]
  · subst h7
    go_enter Tryd.func45, Tryd.ntmps45
    go_wp2_with fail
    go_ret2
    exact ⟨rfl, rfl⟩
  have hz : levT s = 0 := by simp [levT, h0, h1, h2, h3, h4, h5, h6, h7]
  have hk : kindT s = 0 := by simp [kindT, hz]
  rw [hz, hk]
  have g0 : (s == [124]) = false := by simpa using h0
  have g1 : (s == [94]) = false := by simpa using h1
  have g2 : (s == [38]) = false := by simpa using h2
  have g3 : (s == [60, 60]) = false := by simpa using h3
  have g4 : (s == [62, 62]) = false := by simpa using h4
  have g5 : (s == [60, 60, 60]) = false := by simpa using h5
  have g6 : (s == [43]) = false := by simpa using h6
  have g7 : (s == [45]) = false := by simpa using h7
  clear hz hk
  go_enter Tryd.func45, Tryd.ntmps45
  go_wp2_with fail
  go_ret2
  exact ⟨rfl, rfl⟩
end Go.Proofs.YtkdpndoollbggaaDoor.Pa
