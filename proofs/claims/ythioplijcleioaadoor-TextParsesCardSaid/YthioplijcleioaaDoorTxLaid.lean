/- DERIVED. What the row's listed tables, and the world's shape, give the walks on texts. By an AI agent. -/
import Derived.Test.YthioplijcleioaaDoorTxShow
import Derived.ProofKit
import Derived.LaidMore
import Derived.LaidLaws
import Derived.OpenShut
import Derived.MakeChecks
import Derived.Lib.LaidU8
import Derived.Shelf.Vars
namespace Go.Proofs.YthioplijcleioaaDoor.Tx
open Go.ChangeShapes Go.WideShapes Go.ChangeAt Go.RowKit Go.Lib Go.Sort Tabs Tp
set_option linter.unusedVariables false
/-- A listed variable of an interface's type holds a value with its type. -/
theorem iface_cell {W : World} {n nm : String} {d : DataW Unit} {g : Nat} {t : TypeId} {ms : Array (String × TypeId)} (hr : VarReads Tryd.prog W n (.iface nm d)) (hg : Tryd.prog.globalNamed n = some g) (hty : (Tryd.prog.globals[g]?).map (fun x => x.type) = some t)
    (hi : Tryd.prog.underlying t = some (.interface ms)) : ∃ ev, W.cell? ⟨g, 0, none⟩ = some ev ∧ (ev = .nilIface ∨ ∃ te pe, ev = .iface te pe) := by
  obtain ⟨g', t', cs, fuel, p, hg', ht', hv, hr⟩ := hr
  obtain rfl := Option.some.inj (hg.symm.trans hg')
  obtain rfl := Option.some.inj (hty.symm.trans ht')
  obtain ⟨_, u, v, hcs, _⟩ := iface_of_trod hi hr
  refine ⟨.iface u v, ?_, .inr ⟨u, v, rfl⟩⟩
  rw [World.var?_cell hg hv 0, ← Array.getElem?_toList, hcs]
  rfl
theorem tSp : (Tryd.prog.globals[2]?).map (fun x => x.type) = some 85 := by kernel_rfl
theorem tPw : (Tryd.prog.globals[9]?).map (fun x => x.type) = some 138 := by kernel_rfl
theorem tab_of {W : World} {n : String} {d : DataW Unit} {g : Nat} {t e : TypeId} {m : Nat} {k : IntKind} {zs : List Int} (hr : VarReads Tryd.prog W n d) (hg : Tryd.prog.globalNamed n = some g) (hty : (Tryd.prog.globals[g]?).map (fun x => x.type) = some t)
    (ht : Tryd.prog.underlying t = some (.array m e)) (he : Tryd.prog.underlying e = some (.int k)) (hce : Tryd.prog.cellsOf e = 1) (hct : Tryd.prog.cellsOf t = m) (hd : d = tabData k zs) : TabIs Tryd.prog W n k zs := by
  obtain ⟨g', t', cs, fuel, p, hg', ht', hv, hr⟩ := hr
  obtain rfl := Option.some.inj (hg.symm.trans hg')
  obtain rfl := Option.some.inj (hty.symm.trans ht')
  subst hd
  unfold TabIs
  rw [hv, ← cells_of_tab ht he hce hct hr]
theorem lw_of {W : World} (h : laidMetH Tryd.prog Rows.textShowsRow.laid W) (hs : W.ShapedOpen Tryd.prog) : Lw W := by
  rw [MakeChecks.laidMetH_plain _ _ _ (by kernel_rfl)] at h
  have hr := fun n d hm => laidMet.reads (n := n) (d := d) h hm
  have hf := hr "bauta/thumb.fields" Rows.laid_bauta_thumb_fields (by simp [Rows.textShowsRow])
  have hsp := hr "bauta/thumb.shapes" Rows.laid_bauta_thumb_shapes (by simp [Rows.textShowsRow])
  have ha := hr "strings.asciiSpace" Rows.laid_strings_asciiSpace (by simp [Rows.textShowsRow])
  have hp := hr "internal/strconv.uint64pow10" Rows.laid_internal_strconv_uint64pow10 (by simp [Rows.textShowsRow])
  have hes := hr "strconv.ErrSyntax" Rows.laid_strconv_ErrSyntax (by simp [Rows.textShowsRow])
  have her := hr "strconv.ErrRange" Rows.laid_strconv_ErrRange (by simp [Rows.textShowsRow])
  refine ⟨?_, tab_of ha gSp tSp Tryd.underlying85 Tryd.underlying5 (by kernel_rfl) (by kernel_rfl) (by kernel_rfl), tab_of hp gPw tPw Tryd.underlying138 Tryd.underlying119 (by kernel_rfl) (by kernel_rfl) (by kernel_rfl), ?_, ?_, ?_⟩
  · obtain ⟨g0, t0, cs0, f0, p0, hg0, ht0, hv0, hd0⟩ := hf
    obtain ⟨g1, t1, cs1, f1, p1, hg1, ht1, hv1, hd1⟩ := hsp
    obtain rfl := Option.some.inj (Tp.gf.symm.trans hg0)
    obtain rfl := Option.some.inj (Tp.tf.symm.trans ht0)
    obtain rfl := Option.some.inj (Tp.gs.symm.trans hg1)
    obtain rfl := Option.some.inj (Tp.ts.symm.trans ht1)
    refine ⟨fun k j c hk hc => ?_, fun k j c hk hc => ?_⟩
    · have hj : j < 5 := (List.getElem?_eq_some_iff.1 hc).1
      exact cells_of hg0 hv0 hd0 lay_f (5 * k + j) c (by rw [flat_get fcells 5 (fun _ => rfl) 13 k j hk hj]; exact hc)
    · have hj : j < 3 := (List.getElem?_eq_some_iff.1 hc).1
      exact cells_of hg1 hv1 hd1 lay_s (3 * k + j) c (by rw [flat_get scells 3 (fun _ => rfl) 21 k j hk hj]; exact hc)
  · exact iface_cell hes (by kernel_rfl) (by kernel_rfl) Tryd.underlying61
  · exact iface_cell her (by kernel_rfl) (by kernel_rfl) Tryd.underlying61
  · exact cell_of_shapedOpen_int (zero := #[.int .i64 0]) hs (by decide +kernel) (by kernel_rfl) rfl (by kernel_rfl) (by kernel_rfl) Tryd.underlying3
end Go.Proofs.YthioplijcleioaaDoor.Tx
