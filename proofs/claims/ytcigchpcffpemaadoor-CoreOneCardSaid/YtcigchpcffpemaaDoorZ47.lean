/- DERIVED. CoArg, LkArg, Ints5 in one text. By an AI agent. -/
import Derived.Test.YtcigchpcffpemaaDoorZ06
import Derived.ProofKit
import Derived.OpenShut
import Derived.Test.YtcigchpcffpemaaDoorZ21
import Derived.Test.YtcigchpcffpemaaDoorRows
import Derived.Lib.SmallJoins
/- DERIVED. States, words and pairs of states that came in by value. By an AI agent. -/
namespace Go.Proofs.YtcigchpcffpemaaDoor.Co
open Go.ChangeShapes Go.WideShapes Go.ChangeAt Go.RowKit WMath Word
set_option linter.unusedVariables false
set_option linter.unusedSimpArgs false
def mkR (a0 a1 a2 a3 a4 a5 a6 a7 : BitVec 32) : Nat → BitVec 32
  | 0 => a0 | 1 => a1 | 2 => a2 | 3 => a3 | 4 => a4 | 5 => a5 | 6 => a6 | _ => a7
section
variable {H : Type} {enc : TypeId × Value → H} {w : World} {base : Nat} {spare : Nat → Bool} {held : Bool} {fuel : Nat}
theorem u24 : Tryd.prog.underlying 24 = some (.int .u32) := by kernel_rfl
theorem u4 : Tryd.prog.underlying 4 = some .bool := by kernel_rfl
theorem c24 : Tryd.prog.cellsOf 24 = 1 := by kernel_rfl
theorem c4 : Tryd.prog.cellsOf 4 = 1 := by kernel_rfl
theorem c25 : Tryd.prog.cellsOf 25 = 8 := by kernel_rfl
theorem c28 : Tryd.prog.cellsOf 28 = 4 := by kernel_rfl
theorem c27 : Tryd.prog.cellsOf 27 = 13 := by kernel_rfl
theorem c55 : Tryd.prog.cellsOf 60 = 26 := by kernel_rfl
theorem cell_u {t : TypeId} (ht : Tryd.prog.underlying t = some (.int .u32)) {c : Value} {x : Option (DataW H × List MemPlace)} (hx : x ≠ none) (h : DataW.trod enc Tryd.prog w base spare held fuel t [c] = x) : ∃ a : BitVec 32, c = u a := by
  obtain ⟨y, hy⟩ := Option.ne_none_iff_exists'.1 hx
  rw [hy] at h
  obtain ⟨n, e, _, hw⟩ := DataW.trod_int ht h
  have hb := bounds_u32 hw
  obtain ⟨a, ha⟩ := word_of n hb.1 hb.2
  simp only [List.cons.injEq, and_true] at e
  exact ⟨a, by rw [e, ha]⟩
theorem cell_b {t : TypeId} (ht : Tryd.prog.underlying t = some .bool) {c : Value} {x : Option (DataW H × List MemPlace)} (hx : x ≠ none) (h : DataW.trod enc Tryd.prog w base spare held fuel t [c] = x) : ∃ b : Bool, c = .bool b := by
  obtain ⟨y, hy⟩ := Option.ne_none_iff_exists'.1 hx
  rw [hy] at h
  obtain ⟨b, e, _⟩ := DataW.trod_bool ht h
  simp only [List.cons.injEq, and_true] at e
  exact ⟨b, e⟩
theorem some_at {α : Type} {xs : List α} {n i : Nat} (h : xs.length = n) (hi : i < n) : xs[i]? ≠ none := by
  rw [List.getElem?_eq_getElem (by omega)]; exact Option.some_ne_none _
set_option maxRecDepth 100000 in
theorem st_cells {cs : List Value} {x : DataW H × List MemPlace} (h : DataW.trod enc Tryd.prog w base spare held fuel 27 cs = some x) : ∃ s : S, cs = (sC s).toList := by
  obtain ⟨xs, n, _, _, hlen, hxl, hg⟩ := DataW.trod_struct Tryd.underlying27 h
  rw [c27] at hlen
  match cs, hlen with
  | [q0, q1, q2, q3, q4, q5, q6, q7, q8, q9, q10, q11, q12], _ =>
    have g0 := hg 0 _ rfl; have g1 := hg 1 _ rfl; have g2 := hg 2 _ rfl; have g3 := hg 3 _ rfl; have g4 := hg 4 _ rfl; have g5 := hg 5 _ rfl
    simp [c24, c4, c25] at g0 g1 g2 g3 g4 g5
    have hxl6 : xs.length = 6 := hxl
    obtain ⟨b8, rfl⟩ := cell_u u24 (some_at hxl6 (by decide)) g1
    obtain ⟨b9, rfl⟩ := cell_b u4 (some_at hxl6 (by decide)) g2
    obtain ⟨b10, rfl⟩ := cell_b u4 (some_at hxl6 (by decide)) g3
    obtain ⟨b11, rfl⟩ := cell_b u4 (some_at hxl6 (by decide)) g4
    obtain ⟨b12, rfl⟩ := cell_b u4 (some_at hxl6 (by decide)) g5
    obtain ⟨y, hy⟩ := Option.ne_none_iff_exists'.1 (some_at hxl6 (show 0 < 6 by decide))
    rw [hy] at g0
    obtain ⟨ys, m, _, _, _, hyl, hel⟩ := DataW.trod_array Tryd.underlying25 g0
    have e0 := hel 0 (by decide)
    have e1 := hel 1 (by decide)
    have e2 := hel 2 (by decide)
    have e3 := hel 3 (by decide)
    have e4 := hel 4 (by decide)
    have e5 := hel 5 (by decide)
    have e6 := hel 6 (by decide)
    have e7 := hel 7 (by decide)
    simp [c24] at e0 e1 e2 e3 e4 e5 e6 e7
    obtain ⟨a0, rfl⟩ := cell_u u24 (some_at hyl (by decide)) e0
    obtain ⟨a1, rfl⟩ := cell_u u24 (some_at hyl (by decide)) e1
    obtain ⟨a2, rfl⟩ := cell_u u24 (some_at hyl (by decide)) e2
    obtain ⟨a3, rfl⟩ := cell_u u24 (some_at hyl (by decide)) e3
    obtain ⟨a4, rfl⟩ := cell_u u24 (some_at hyl (by decide)) e4
    obtain ⟨a5, rfl⟩ := cell_u u24 (some_at hyl (by decide)) e5
    obtain ⟨a6, rfl⟩ := cell_u u24 (some_at hyl (by decide)) e6
    obtain ⟨a7, rfl⟩ := cell_u u24 (some_at hyl (by decide)) e7
    exact ⟨⟨mkR a0 a1 a2 a3 a4 a5 a6 a7, b8, b9, b10, b11, b12⟩, rfl⟩
set_option maxRecDepth 100000 in
theorem st_of {r : Reach} {b0 : Nat} {v : Value} {d : DataW H} {p : List MemPlace} (hv : Value.okWide Tryd.prog w r b0 27 v) (h : DataW.Trod enc Tryd.prog w base spare held 27 v d p) : ∃ s : S, v = sv s := by
  obtain ⟨cs, rfl, _⟩ := okWide_struct Tryd.underlying27 hv
  obtain ⟨fuel, hf⟩ := h
  obtain ⟨s, hs⟩ := st_cells hf
  exact ⟨s, congrArg Value.agg (Array.toList_inj.1 (by simpa [Value.cells] using hs))⟩
set_option maxRecDepth 100000 in
theorem four_of {r : Reach} {b0 : Nat} {v : Value} {d : DataW H} {p : List MemPlace} (hv : Value.okWide Tryd.prog w r b0 28 v) (h : DataW.Trod enc Tryd.prog w base spare held 28 v d p) : ∃ a0 a1 a2 a3 : BitVec 32, v = .agg #[u a0, u a1, u a2, u a3] := by
  have hv' := hv
  simp only [Value.okWide, Tryd.underlying28] at hv'
  obtain ⟨cs, rfl, hsz, _⟩ := hv'
  obtain ⟨fuel, hf⟩ := h
  obtain ⟨ys, m, _, _, hlen, hyl, hel⟩ := DataW.trod_array Tryd.underlying28 hf
  obtain ⟨l⟩ := cs
  have hl : l.length = 4 := by rw [c28] at hsz; simpa using hsz
  match l, hl with
  | [c0, c1, c2, c3], _ =>
    have e0 := hel 0 (by decide); have e1 := hel 1 (by decide); have e2 := hel 2 (by decide); have e3 := hel 3 (by decide)
    simp [c24, Value.cells] at e0 e1 e2 e3
    obtain ⟨a0, rfl⟩ := cell_u u24 (some_at hyl (by decide)) e0
    obtain ⟨a1, rfl⟩ := cell_u u24 (some_at hyl (by decide)) e1
    obtain ⟨a2, rfl⟩ := cell_u u24 (some_at hyl (by decide)) e2
    obtain ⟨a3, rfl⟩ := cell_u u24 (some_at hyl (by decide)) e3
    exact ⟨a0, a1, a2, a3, rfl⟩
set_option maxRecDepth 100000 in
theorem two_of {r : Reach} {b0 : Nat} {v : Value} {d : DataW H} {p : List MemPlace} (hv : Value.okWide Tryd.prog w r b0 60 v) (h : DataW.Trod enc Tryd.prog w base spare held 60 v d p) : ∃ a b : S, v = .agg (sC a ++ sC b) := by
  have hv' := hv
  simp only [Value.okWide, Tryd.underlying60] at hv'
  obtain ⟨cs, rfl, hsz, _⟩ := hv'
  obtain ⟨fuel, hf⟩ := h
  obtain ⟨ys, m, _, _, hlen, hyl, hel⟩ := DataW.trod_array Tryd.underlying60 hf
  have hl : cs.toList.length = 26 := by rw [c55] at hsz; simpa using hsz
  have e0 := hel 0 (by decide); have e1 := hel 1 (by decide)
  simp only [c27, Value.cells] at e0 e1
  obtain ⟨y0, h0⟩ := Option.ne_none_iff_exists'.1 (some_at hyl (show 0 < 2 by decide))
  obtain ⟨y1, h1⟩ := Option.ne_none_iff_exists'.1 (some_at hyl (show 1 < 2 by decide))
  rw [h0] at e0; rw [h1] at e1
  obtain ⟨a, ha⟩ := st_cells e0
  obtain ⟨b, hb⟩ := st_cells e1
  refine ⟨a, b, congrArg Value.agg (Array.toList_inj.1 ?_)⟩
  rw [Array.toList_append, ← ha, ← hb]
  have ht : (List.drop (1 * 13) cs.toList).take 13 = List.drop 13 cs.toList := List.take_of_length_le (by rw [List.length_drop]; omega)
  rw [ht]
  simp only [Nat.zero_mul, List.drop_zero]
  exact (List.take_append_drop 13 cs.toList).symm
end
end Go.Proofs.YtcigchpcffpemaaDoor.Co
/- DERIVED. Leaks that came in by value. By an AI agent. -/
namespace Go.Proofs.YtcigchpcffpemaaDoor.Lk
open Go.ChangeShapes Go.WideShapes Go.ChangeAt Go.RowKit WMath Word Co
set_option linter.unusedVariables false
set_option linter.unusedSimpArgs false
section
variable {H : Type} {enc : TypeId × Value → H} {w : World} {base : Nat} {spare : Nat → Bool} {held : Bool} {fuel : Nat}
theorem u29 : Tryd.prog.underlying 29 = some (.int .u16) := by kernel_rfl
theorem c29 : Tryd.prog.cellsOf 29 = 1 := by kernel_rfl
theorem c42 : Tryd.prog.cellsOf 42 = 10 := by kernel_rfl
theorem cell_h {t : TypeId} (ht : Tryd.prog.underlying t = some (.int .u16)) {c : Value} {x : Option (DataW H × List MemPlace)} (hx : x ≠ none) (h : DataW.trod enc Tryd.prog w base spare held fuel t [c] = x) : ∃ a : Nat, c = .int .u16 (a : Int) := by
  obtain ⟨y, hy⟩ := Option.ne_none_iff_exists'.1 hx
  rw [hy] at h
  obtain ⟨n, e, _, hw⟩ := DataW.trod_int ht h
  have hb := bounds_u16 hw
  obtain ⟨a, ha⟩ := Int.eq_ofNat_of_zero_le hb.1
  simp only [List.cons.injEq, and_true] at e
  exact ⟨a, by rw [e, ha]⟩
set_option maxRecDepth 100000 in
theorem lk_cells {cs : List Value} {x : DataW H × List MemPlace} (h : DataW.trod enc Tryd.prog w base spare held fuel 42 cs = some x) : ∃ l : L, cs = (lC l).toList := by
  obtain ⟨xs, n, _, _, hlen, hxl, hg⟩ := DataW.trod_struct Tryd.underlying42 h
  rw [c42] at hlen
  match cs, hlen with
  | [q0, q1, q2, q3, q4, q5, q6, q7, q8, q9], _ =>
    have g0 := hg 0 _ rfl; have g1 := hg 1 _ rfl; have g2 := hg 2 _ rfl; have g3 := hg 3 _ rfl; have g4 := hg 4 _ rfl; have g5 := hg 5 _ rfl; have g6 := hg 6 _ rfl; have g7 := hg 7 _ rfl; have g8 := hg 8 _ rfl; have g9 := hg 9 _ rfl
    simp [c24, c4, c29] at g0 g1 g2 g3 g4 g5 g6 g7 g8 g9
    have hl : xs.length = 10 := hxl
    obtain ⟨b0, rfl⟩ := cell_u u24 (some_at hl (by decide)) g0
    obtain ⟨b1, rfl⟩ := cell_h u29 (some_at hl (by decide)) g1
    obtain ⟨b2, rfl⟩ := cell_u u24 (some_at hl (by decide)) g2
    obtain ⟨b3, rfl⟩ := cell_u u24 (some_at hl (by decide)) g3
    obtain ⟨b4, rfl⟩ := cell_u u24 (some_at hl (by decide)) g4
    obtain ⟨b5, rfl⟩ := cell_u u24 (some_at hl (by decide)) g5
    obtain ⟨b6, rfl⟩ := cell_u u24 (some_at hl (by decide)) g6
    obtain ⟨b7, rfl⟩ := cell_u u24 (some_at hl (by decide)) g7
    obtain ⟨b8, rfl⟩ := cell_b u4 (some_at hl (by decide)) g8
    obtain ⟨b9, rfl⟩ := cell_b u4 (some_at hl (by decide)) g9
    exact ⟨⟨b0, b1, b2, b3, b4, b5, b6, b7, b8, b9⟩, rfl⟩
set_option maxRecDepth 100000 in
theorem leak_of {r : Reach} {b0 : Nat} {v : Value} {d : DataW H} {p : List MemPlace} (hv : Value.okWide Tryd.prog w r b0 42 v) (h : DataW.Trod enc Tryd.prog w base spare held 42 v d p) : ∃ l : L, v = lv l := by
  obtain ⟨cs, rfl, _⟩ := okWide_struct Tryd.underlying42 hv
  obtain ⟨fuel, hf⟩ := h
  obtain ⟨l, hl⟩ := lk_cells hf
  exact ⟨l, congrArg Value.agg (Array.toList_inj.1 (by simpa [Value.cells] using hl))⟩
end
end Go.Proofs.YtcigchpcffpemaaDoor.Lk
/- DERIVED. A struct of five integers that came in by value: its five numbers. By an AI agent. -/
namespace Go.Proofs.YtcigchpcffpemaaDoor
open Go.ChangeShapes Go.WideShapes Go.ChangeAt Go.RowKit Go.Joins
theorem ints5 {H : Type} {enc : TypeId × Value → H} {P : Program} {W : World} {r : Reach} {b0 base : Nat} {spare : Nat → Bool} {held : Bool} {T E : TypeId} {k : IntKind} {v : Value} {d : DataW H} {p : List MemPlace} {f0 f1 f2 f3 f4 : Field}
    (hT : P.underlying T = some (.struct #[f0, f1, f2, f3, f4])) (hE : P.underlying E = some (.int k)) (hC : P.cellsOf T = 5) (hC1 : P.cellsOf E = 1)
    (hf : f0.type = E ∧ f1.type = E ∧ f2.type = E ∧ f3.type = E ∧ f4.type = E) (ho : f0.offset = 0 ∧ f1.offset = 1 ∧ f2.offset = 2 ∧ f3.offset = 3 ∧ f4.offset = 4)
    (hv : Value.okWide P W r b0 T v) (h : DataW.Trod enc P W base spare held T v d p) :
    ∃ x0 x1 x2 x3 x4 : Int, ((Lit.int k x0).wf = true ∧ (Lit.int k x1).wf = true ∧ (Lit.int k x2).wf = true ∧ (Lit.int k x3).wf = true ∧ (Lit.int k x4).wf = true) ∧ v = .agg #[.int k x0, .int k x1, .int k x2, .int k x3, .int k x4] := by
  obtain ⟨cs, rfl, hsz⟩ := okWide_struct hT hv
  obtain ⟨fuel, hfu⟩ := h
  obtain ⟨xs, n, _, _, _, hlen, hg⟩ := DataW.trod_struct hT hfu
  have g0 := hg 0 f0 rfl; have g1 := hg 1 f1 rfl; have g2 := hg 2 f2 rfl; have g3 := hg 3 f3 rfl; have g4 := hg 4 f4 rfl
  rw [hf.1, ho.1, hC1] at g0
  rw [hf.2.1, ho.2.1, hC1] at g1
  rw [hf.2.2.1, ho.2.2.1, hC1] at g2
  rw [hf.2.2.2.1, ho.2.2.2.1, hC1] at g3
  rw [hf.2.2.2.2, ho.2.2.2.2, hC1] at g4
  obtain ⟨l⟩ := cs
  have hl : l.length = 5 := by rw [hC] at hsz; simpa using hsz
  match l, hl, xs, hlen with
  | [c0, c1, c2, c3, c4], _, [y0, y1, y2, y3, y4], _ =>
    simp [Value.cells] at g0 g1 g2 g3 g4
    obtain ⟨a0, e0, _, w0⟩ := DataW.trod_int hE g0
    obtain ⟨a1, e1, _, w1⟩ := DataW.trod_int hE g1
    obtain ⟨a2, e2, _, w2⟩ := DataW.trod_int hE g2
    obtain ⟨a3, e3, _, w3⟩ := DataW.trod_int hE g3
    obtain ⟨a4, e4, _, w4⟩ := DataW.trod_int hE g4
    simp at e0 e1 e2 e3 e4
    subst e0 e1 e2 e3 e4
    exact ⟨a0, a1, a2, a3, a4, ⟨w0, w1, w2, w3, w4⟩, rfl⟩
end Go.Proofs.YtcigchpcffpemaaDoor
