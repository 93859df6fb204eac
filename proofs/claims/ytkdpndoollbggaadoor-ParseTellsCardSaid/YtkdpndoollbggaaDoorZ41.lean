/- DERIVED. PaTp in one text. By an AI agent. -/
import Derived.Test.YtkdpndoollbggaaDoorZ40
/- DERIVED. The contracts of package parse's Parse and Expr. By an AI agent. -/
namespace Go.Proofs.YtkdpndoollbggaaDoor.Pa
open Go Go.ChangeShapes Go.WideShapes Go.ChangeAt Go.RowKit Lx Args
set_option linter.unusedVariables false
set_option linter.unusedSimpArgs false
attribute [local go_sem] fTk0 fTk1 fTk2
theorem res_ctt {fn : Func} {p u v : Tmp} (h : fn.results = #[.cell p 27, .tmp u, .tmp v]) (tmps : Array Value) (W : World) {g : Nat} {t : TypeId} {cs : Array Value} (hp : tmps.getD p undef = .pointer (some ⟨g, 0, none⟩)) (hg : Blk W g t cs) (hs : some 6 = some cs.size) {x y : Value} (hx : tmps.getD u undef = x) (hy : tmps.getD v undef = y) :
    (results fn tmps).run Tryd.prog W = .ok (.tuple #[.agg cs, x, y]) W := by
  subst hx; subst hy
  have hp' : tmps[p]?.getD undef = .pointer (some ⟨g, 0, none⟩) := by simpa using hp
  simp [results, h, hp', asAddr, run_loadVar_row W g t 27 cs (0, 0) _ hg Tryd.underlying27 rfl (szNd.trans hs)]
set_option maxRecDepth 100000 in
set_option maxHeartbeats 4000000 in
theorem p_program (s : ByteArray) (w : World) : Calls Tryd.prog 6 #[.string s] w (RdP ProgR s w) := by
  have hrd : ∀ w, Calls Tryd.prog 10 #[.string s, .func (.func 11) #[] #[]] w (RdP ProgR s w) := fun w => by
    by_cases h : (wordsL s.data.toList).er = 0
    · exact read_ok_program s w h
    · exact read_bad_program s w h
  obtain ⟨w0, hw0⟩ : ∃ w0, w.alloc (.cells #[.int .i64 0, .string ⟨#[]⟩, .int .u32 0, .int .i64 0, .slice none 0 0, .slice none 0 0] 27) = w0 := ⟨_, rfl⟩
  have hb0 : Below w.heap.size w w0 := by rw [← hw0]; exact (Below.refl _ _).alloc (Nat.le_refl _) _
  have hB : Blk w0 w.heap.size 27 #[.int .i64 0, .string ⟨#[]⟩, .int .u32 0, .int .i64 0, .slice none 0 0, .slice none 0 0] := by rw [← hw0]; exact Blk.new _ _ _
  have HR := Lib.hid (hrd w0)
  have HB0 := Lib.hid hb0; have HB := Lib.hid hB; have HW := Lib.hid hw0
  clear hb0 hw0 hB hrd
  go_enter Tryd.func6, Tryd.ntmps6
  go_wp2_with fail
  rw [HW.out]
  refine HR.out.mono ?_
  rintro e w1 (⟨k, a, sx, n, A, la, cA, B, lb, cB, x, t, r, rfl, h1, h2, h3, hT, hb⟩ | ⟨a, er, rfl, hbad, hb⟩)
  · have hX := HB.out.below hb HB.out.lt
    have hlt := hX.lt
    have hlb := HB.out.lt
    obtain ⟨⟨e0, e1, e2, e3, e4, e5⟩, z0, z1, z2, z3, z4, z5⟩ := Blk.c6 hX
    have hN := Blk.put6 hX (.int .i64 (k : Int)) (.string ⟨sx.toArray⟩) (.int .u32 (n : Int)) (.int .i64 (a : Int)) (.slice A la cA) (.slice B lb cB)
    have hu : Upd (fun b => b = w.heap.size) w1 _ := put6_upd (X := fun b => b = w.heap.size) (Upd.refl _ w1) (fun _ => rfl) (.int .i64 (k : Int)) (.string ⟨sx.toArray⟩) (.int .u32 (n : Int)) (.int .i64 (a : Int)) (.slice A la cA) (.slice B lb cB)
    have HEND := Lib.hid (show RdP ProgR s w (.returned (.tuple #[.agg #[.int .i64 (k : Int), .string ⟨sx.toArray⟩, .int .u32 (n : Int), .int .i64 (a : Int), .slice A la cA, .slice B lb cB], .int .i64 0, .int .i64 0])) _ from
      .inl ⟨k, a, sx, n, A, la, cA, B, lb, cB, x, t, r, rfl, h1, h2, h3, (TIn.far hT hu fun b hb => by omega).up (by omega), ((Upd.of_below (HB0.out.trans (hb.mono HB0.out.size)) (fun b => b = w.heap.size)).trans hu).below (Nat.le_refl _) fun k hk => by omega⟩)
    have HN := Lib.hid hN
    clear hX hN hu hT hb h2
    go_wp2_with fail
    exact bodyPost_ret (v := .tuple #[.agg #[.int .i64 (k : Int), .string ⟨sx.toArray⟩, .int .u32 (n : Int), .int .i64 (a : Int), .slice A la cA, .slice B lb cB], .int .i64 0, .int .i64 0]) (res_ctt rfl _ _ rfl HN.out rfl rfl rfl) rfl HEND.out
  · have hX := HB.out.below hb HB.out.lt
    obtain ⟨⟨e0, e1, e2, e3, e4, e5⟩, z0, z1, z2, z3, z4, z5⟩ := Blk.c6 hX
    have hN := Blk.put6 hX (.int .i64 0) (.string ⟨#[]⟩) (.int .u32 0) (.int .i64 0) (.slice none 0 0) (.slice none 0 0)
    have hu : Upd (fun b => b = w.heap.size) w1 _ := put6_upd (X := fun b => b = w.heap.size) (Upd.refl _ w1) (fun _ => rfl) (.int .i64 0) (.string ⟨#[]⟩) (.int .u32 0) (.int .i64 0) (.slice none 0 0) (.slice none 0 0)
    have HEND := Lib.hid (show RdP ProgR s w (.returned (.tuple #[.agg #[.int .i64 0, .string ⟨#[]⟩, .int .u32 0, .int .i64 0, .slice none 0 0, .slice none 0 0], .int .i64 (a : Int), .int .i64 (er : Int)])) _ from .inr ⟨a, er, rfl, hbad, ((Upd.of_below (HB0.out.trans (hb.mono HB0.out.size)) (fun b => b = w.heap.size)).trans hu).below (Nat.le_refl _) fun k hk => by omega⟩)
    have HN := Lib.hid hN
    clear hX hN hu hb hbad
    go_wp2_with fail
    exact bodyPost_ret (v := .tuple #[.agg #[.int .i64 0, .string ⟨#[]⟩, .int .u32 0, .int .i64 0, .slice none 0 0, .slice none 0 0], .int .i64 (a : Int), .int .i64 (er : Int)]) (res_ctt rfl _ _ rfl HN.out rfl rfl rfl) rfl HEND.out
set_option maxRecDepth 100000 in
set_option maxHeartbeats 4000000 in
theorem p_expr (s : ByteArray) (w : World) : Calls Tryd.prog 18 #[.string s] w (RdP ExprR s w) := by
  have hrd : ∀ w, Calls Tryd.prog 10 #[.string s, .func (.func 27) #[] #[]] w (RdP ExprR s w) := fun w => by
    by_cases h : (wordsL s.data.toList).er = 0
    · exact read_ok_expr s w h
    · exact read_bad_expr s w h
  obtain ⟨w0, hw0⟩ : ∃ w0, w.alloc (.cells #[.int .i64 0, .string ⟨#[]⟩, .int .u32 0, .int .i64 0, .slice none 0 0, .slice none 0 0] 27) = w0 := ⟨_, rfl⟩
  have hb0 : Below w.heap.size w w0 := by rw [← hw0]; exact (Below.refl _ _).alloc (Nat.le_refl _) _
  have hB : Blk w0 w.heap.size 27 #[.int .i64 0, .string ⟨#[]⟩, .int .u32 0, .int .i64 0, .slice none 0 0, .slice none 0 0] := by rw [← hw0]; exact Blk.new _ _ _
  have HR := Lib.hid (hrd w0)
  have HB0 := Lib.hid hb0; have HB := Lib.hid hB; have HW := Lib.hid hw0
  clear hb0 hw0 hB hrd
  go_enter Tryd.func18, Tryd.ntmps18
  go_wp2_with fail
  rw [HW.out]
  refine HR.out.mono ?_
  rintro e w1 (⟨k, a, sx, n, A, la, cA, B, lb, cB, x, t, r, rfl, h1, h2, h3, hT, hb⟩ | ⟨a, er, rfl, hbad, hb⟩)
  · have hX := HB.out.below hb HB.out.lt
    have hlt := hX.lt
    have hlb := HB.out.lt
    obtain ⟨⟨e0, e1, e2, e3, e4, e5⟩, z0, z1, z2, z3, z4, z5⟩ := Blk.c6 hX
    have hN := Blk.put6 hX (.int .i64 (k : Int)) (.string ⟨sx.toArray⟩) (.int .u32 (n : Int)) (.int .i64 (a : Int)) (.slice A la cA) (.slice B lb cB)
    have hu : Upd (fun b => b = w.heap.size) w1 _ := put6_upd (X := fun b => b = w.heap.size) (Upd.refl _ w1) (fun _ => rfl) (.int .i64 (k : Int)) (.string ⟨sx.toArray⟩) (.int .u32 (n : Int)) (.int .i64 (a : Int)) (.slice A la cA) (.slice B lb cB)
    have HEND := Lib.hid (show RdP ExprR s w (.returned (.tuple #[.agg #[.int .i64 (k : Int), .string ⟨sx.toArray⟩, .int .u32 (n : Int), .int .i64 (a : Int), .slice A la cA, .slice B lb cB], .int .i64 0, .int .i64 0])) _ from
      .inl ⟨k, a, sx, n, A, la, cA, B, lb, cB, x, t, r, rfl, h1, h2, h3, (TIn.far hT hu fun b hb => by omega).up (by omega), ((Upd.of_below (HB0.out.trans (hb.mono HB0.out.size)) (fun b => b = w.heap.size)).trans hu).below (Nat.le_refl _) fun k hk => by omega⟩)
    have HN := Lib.hid hN
    clear hX hN hu hT hb h2
    go_wp2_with fail
    exact bodyPost_ret (v := .tuple #[.agg #[.int .i64 (k : Int), .string ⟨sx.toArray⟩, .int .u32 (n : Int), .int .i64 (a : Int), .slice A la cA, .slice B lb cB], .int .i64 0, .int .i64 0]) (res_ctt rfl _ _ rfl HN.out rfl rfl rfl) rfl HEND.out
  · have hX := HB.out.below hb HB.out.lt
    obtain ⟨⟨e0, e1, e2, e3, e4, e5⟩, z0, z1, z2, z3, z4, z5⟩ := Blk.c6 hX
    have hN := Blk.put6 hX (.int .i64 0) (.string ⟨#[]⟩) (.int .u32 0) (.int .i64 0) (.slice none 0 0) (.slice none 0 0)
    have hu : Upd (fun b => b = w.heap.size) w1 _ := put6_upd (X := fun b => b = w.heap.size) (Upd.refl _ w1) (fun _ => rfl) (.int .i64 0) (.string ⟨#[]⟩) (.int .u32 0) (.int .i64 0) (.slice none 0 0) (.slice none 0 0)
    have HEND := Lib.hid (show RdP ExprR s w (.returned (.tuple #[.agg #[.int .i64 0, .string ⟨#[]⟩, .int .u32 0, .int .i64 0, .slice none 0 0, .slice none 0 0], .int .i64 (a : Int), .int .i64 (er : Int)])) _ from .inr ⟨a, er, rfl, hbad, ((Upd.of_below (HB0.out.trans (hb.mono HB0.out.size)) (fun b => b = w.heap.size)).trans hu).below (Nat.le_refl _) fun k hk => by omega⟩)
    have HN := Lib.hid hN
    clear hX hN hu hb hbad
    go_wp2_with fail
    exact bodyPost_ret (v := .tuple #[.agg #[.int .i64 0, .string ⟨#[]⟩, .int .u32 0, .int .i64 0, .slice none 0 0, .slice none 0 0], .int .i64 (a : Int), .int .i64 (er : Int)]) (res_ctt rfl _ _ rfl HN.out rfl rfl rfl) rfl HEND.out
end Go.Proofs.YtkdpndoollbggaaDoor.Pa
