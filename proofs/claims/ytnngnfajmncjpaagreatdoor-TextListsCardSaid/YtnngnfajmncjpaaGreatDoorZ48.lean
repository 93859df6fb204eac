/- DERIVED. TxLaidy in one text. By an AI agent. -/
import Derived.Test.YtnngnfajmncjpaaGreatDoorZ26
import Derived.ProofKit
import Derived.LaidMore
import Derived.LaidLaws
import Derived.OpenShut
import Derived.MakeChecks
import Derived.Lib.LaidU8
import Derived.Shelf.Vars
/- DERIVED. What the row's listed tables, and the world's shape, give the walks on texts. By an AI agent. -/
namespace Go.Proofs.YtnngnfajmncjpaaGreatDoor.Tx
open Go.ChangeShapes Go.WideShapes Go.ChangeAt Go.RowKit Go.Lib Go.Sort Tabs Tp
set_option linter.unusedVariables false
/-- A listed variable of an interface's type holds a value with its type. -/
theorem iface_cell {W : World} {n nm : String} {d : DataW Unit} {g : Nat} {t : TypeId} {ms : Array (String × TypeId)} (hr : VarReads Tryz.prog W n (.iface nm d)) (hg : Tryz.prog.globalNamed n = some g) (hty : (Tryz.prog.globals[g]?).map (fun x => x.type) = some t)
    (hi : Tryz.prog.underlying t = some (.interface ms)) : ∃ ev, W.cell? ⟨g, 0, none⟩ = some ev ∧ (ev = .nilIface ∨ ∃ te pe, ev = .iface te pe) := by
  obtain ⟨g', t', cs, fuel, p, hg', ht', hv, hr⟩ := hr
  obtain rfl := Option.some.inj (hg.symm.trans hg')
  obtain rfl := Option.some.inj (hty.symm.trans ht')
  obtain ⟨_, u, v, hcs, _⟩ := iface_of_trod hi hr
  refine ⟨.iface u v, ?_, .inr ⟨u, v, rfl⟩⟩
  rw [World.var?_cell hg hv 0, ← Array.getElem?_toList, hcs]
  rfl
theorem tSp : (Tryz.prog.globals[5]?).map (fun x => x.type) = some 126 := by kernel_rfl
theorem tPw : (Tryz.prog.globals[6]?).map (fun x => x.type) = some 137 := by kernel_rfl
theorem tab_of {W : World} {n : String} {d : DataW Unit} {g : Nat} {t e : TypeId} {m : Nat} {k : IntKind} {zs : List Int} (hr : VarReads Tryz.prog W n d) (hg : Tryz.prog.globalNamed n = some g) (hty : (Tryz.prog.globals[g]?).map (fun x => x.type) = some t)
    (ht : Tryz.prog.underlying t = some (.array m e)) (he : Tryz.prog.underlying e = some (.int k)) (hce : Tryz.prog.cellsOf e = 1) (hct : Tryz.prog.cellsOf t = m) (hd : d = tabData k zs) : TabIs Tryz.prog W n k zs := by
  obtain ⟨g', t', cs, fuel, p, hg', ht', hv, hr⟩ := hr
  obtain rfl := Option.some.inj (hg.symm.trans hg')
  obtain rfl := Option.some.inj (hty.symm.trans ht')
  subst hd
  unfold TabIs
  rw [hv, ← cells_of_tab ht he hce hct hr]
theorem lw_of {W : World} (h : laidMetH Tryz.prog Rows.textListsRow.laid W) (hs : W.ShapedOpen Tryz.prog) : Lw W := by
  rw [MakeChecks.laidMetH_plain _ _ _ (by kernel_rfl)] at h
  have hr := fun n d hm => laidMet.reads (n := n) (d := d) h hm
  have hf := hr "bauta/thumb.fields" Rows.laid_bauta_thumb_fields (by simp [Rows.textListsRow])
  have hsp := hr "bauta/thumb.shapes" Rows.laid_bauta_thumb_shapes (by simp [Rows.textListsRow])
  have ha := hr "strings.asciiSpace" Rows.laid_strings_asciiSpace (by simp [Rows.textListsRow])
  have hp := hr "internal/strconv.uint64pow10" Rows.laid_internal_strconv_uint64pow10 (by simp [Rows.textListsRow])
  have hes := hr "strconv.ErrSyntax" Rows.laid_strconv_ErrSyntax (by simp [Rows.textListsRow])
  have her := hr "strconv.ErrRange" Rows.laid_strconv_ErrRange (by simp [Rows.textListsRow])
  refine ⟨?_, tab_of ha gSp tSp Tryz.underlying126 Tryz.underlying5 (by kernel_rfl) (by kernel_rfl) (by kernel_rfl), tab_of hp gPw tPw Tryz.underlying137 Tryz.underlying84 (by kernel_rfl) (by kernel_rfl) (by kernel_rfl), ?_, ?_, ?_⟩
  · obtain ⟨g0, t0, cs0, f0, p0, hg0, ht0, hv0, hd0⟩ := hf
    obtain ⟨g1, t1, cs1, f1, p1, hg1, ht1, hv1, hd1⟩ := hsp
    obtain rfl := Option.some.inj (Tp.gf.symm.trans hg0)
    obtain rfl := Option.some.inj (Tp.tf.symm.trans ht0)
    obtain rfl := Option.some.inj (Tp.gs.symm.trans hg1)
    obtain rfl := Option.some.inj (Tp.ts.symm.trans ht1)
    refine ⟨fun k j c hk hc => ?_, fun k j c hk hc => ?_⟩
    · have hj : j < 5 := (List.getElem?_eq_some_iff.1 hc).1
      exact cells_of hg0 hv0 hd0 lay_f (5 * k + j) c (by rw [flat_get fcells 5 (fun _ => rfl) 13 k j hk hj]; exact hc)
    · have hj : j < 3 := (List.getElem?_eq_some_iff.1 hc).1
      exact cells_of hg1 hv1 hd1 lay_s (3 * k + j) c (by rw [flat_get scells 3 (fun _ => rfl) 21 k j hk hj]; exact hc)
  · exact iface_cell hes (by kernel_rfl) (by kernel_rfl) Tryz.underlying36
  · exact iface_cell her (by kernel_rfl) (by kernel_rfl) Tryz.underlying36
  · exact cell_of_shapedOpen_int (zero := #[.int .i64 0]) hs (by decide +kernel) (by kernel_rfl) rfl (by kernel_rfl) (by kernel_rfl) Tryz.underlying3
theorem g64 : Tryz.prog.globalNamed "math/bits.deBruijn64tab" = some 11 := by kernel_rfl
theorem t64 : (Tryz.prog.globals[11]?).map (fun x => x.type) = some 172 := by kernel_rfl
theorem lay64 : ∃ l, lay Tryz.prog 6 172 Rows.laid_math_bits_deBruijn64tab = some l ∧ l[15]? = some (Cl.v (.int .u8 4)) := by
  have h : (match lay Tryz.prog 6 172 Rows.laid_math_bits_deBruijn64tab with | some l => l[15]? | none => none) = some (Cl.v (.int .u8 4)) := by kernel_rfl
  cases hl : lay Tryz.prog 6 172 Rows.laid_math_bits_deBruijn64tab with
  | none => rw [hl] at h; cases h
  | some l => rw [hl] at h; exact ⟨l, rfl, h⟩
theorem lz_of {W : World} (h : laidMetH Tryz.prog Rows.textListsRow.laid W) (hs : W.ShapedOpen Tryz.prog) : Lz W := by
  refine ⟨lw_of h hs, ?_⟩
  rw [MakeChecks.laidMetH_plain _ _ _ (by kernel_rfl)] at h
  obtain ⟨g0, t0, cs0, f0, p0, hg0, ht0, hv0, hd0⟩ := laidMet.reads (n := "math/bits.deBruijn64tab") (d := Rows.laid_math_bits_deBruijn64tab) h (by simp [Rows.textListsRow])
  obtain rfl := Option.some.inj (g64.symm.trans hg0)
  obtain rfl := Option.some.inj (t64.symm.trans ht0)
  obtain ⟨l, hl, hc⟩ := lay64
  obtain ⟨x, hx, hf⟩ := cells_of hg0 hv0 hd0 hl 15 _ hc
  exact hx.trans (congrArg some hf)
end Go.Proofs.YtnngnfajmncjpaaGreatDoor.Tx
