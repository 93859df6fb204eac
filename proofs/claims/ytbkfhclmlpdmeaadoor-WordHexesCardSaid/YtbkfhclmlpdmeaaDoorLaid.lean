/- DERIVED. What the row's listed tables give the walks: the cell of math/bits' table that 'lives' reads. By an AI agent. -/
import Derived.Test.YtbkfhclmlpdmeaaDoorLives
import Derived.ProofKit
import Derived.LaidMore
import Derived.OpenShut
import Derived.MakeChecks
namespace Go.Proofs.YtbkfhclmlpdmeaaDoor.Lives
open Go.ChangeShapes Go.WideShapes Go.ChangeAt Go.RowKit WMath Word
theorem g32 : Tryd.prog.globalNamed "math/bits.deBruijn32tab" = some 2 := by kernel_rfl
theorem g64 : Tryd.prog.globalNamed "math/bits.deBruijn64tab" = some 3 := by kernel_rfl
theorem t64 : (Tryd.prog.globals[3]?).map (fun x => x.type) = some 91 := by kernel_rfl
theorem of_laid {W : World} (h : laidMetH Tryd.prog [("math/bits.deBruijn32tab", Rows.laid_math_bits_deBruijn32tab), ("math/bits.deBruijn64tab", Rows.laid_math_bits_deBruijn64tab), ("internal/strconv.uint64pow10", Rows.laid_internal_strconv_uint64pow10)] W) : Lv W := by
  rw [MakeChecks.laidMetH_plain _ _ _ (by kernel_rfl)] at h
  obtain ⟨ps, ⟨g0, t0, cs0, f0, p0, q0, hg0, ht0, hv0, hd0, ⟨g1, t1, cs1, f1, p1, q1, hg1, ht1, hv1, hd1, _, _⟩, _⟩, _, _⟩ := h
  clear hg0 ht0 hv0 hd0
  obtain rfl := Option.some.inj (g64.symm.trans hg1)
  obtain rfl := Option.some.inj (t64.symm.trans ht1)
  obtain ⟨xs, m1, rfl, hx1, hlen, hn3, hel⟩ := DataW.trod_array Tryd.underlying91 hd1
  have c5 : Tryd.prog.cellsOf 5 = 1 := by kernel_rfl
  have h15 := hel 15 (by decide)
  rw [c5] at h15
  have hx : (Rows.laid_math_bits_deBruijn64tab : DataW Unit) = .agg (xs.map (fun x => x.1)) := (Prod.mk.inj hx1).1
  have hl : (xs.map (fun x => x.1))[15]? = some (.lit (.int .u8 4)) := by
    unfold Rows.laid_math_bits_deBruijn64tab at hx
    rw [← DataW.agg.inj hx]; rfl
  rw [List.getElem?_map] at hl
  cases hz : xs[15]? with
  | none => rw [hz] at hl; simp at hl
  | some z =>
    rw [hz] at hl h15
    simp only [Option.map_some, Option.some.injEq] at hl
    obtain ⟨k, e1, e2, _⟩ := DataW.trod_int Tryd.underlying5 h15
    have hk : k = 4 := by rw [e2] at hl; simpa using hl
    subst hk
    have hcell : W.cell? ⟨3, 15, none⟩ = some (.int .u8 4) := by
      rw [World.var?_cell hg1 hv1 15]
      have e3 := congrArg (fun l => l[0]?) e1
      simp only [List.getElem?_take_of_lt (show 0 < 1 by decide), List.getElem?_drop] at e3
      simpa using e3
    exact ⟨hcell, World.block_lt_of_cell? W _ hcell⟩
end Go.Proofs.YtbkfhclmlpdmeaaDoor.Lives
