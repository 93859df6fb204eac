/- DERIVED. TxShow in one text. By an AI agent. -/
import Derived.Test.YtnngnfajmncjpaaGreatDoorZ07
import Derived.Test.YtnngnfajmncjpaaGreatDoorZ08
import Derived.Lib.ItoaLen
import Derived.Deep.RegionWith
/- DERIVED. What the text package's walks need of the memory (Go's own tables, the program's two); contracts of Fields, Itoa and of a place's show. By an AI agent. -/
namespace Go.Proofs.YtnngnfajmncjpaaGreatDoor.Tx
open Go.ChangeShapes Go.WideShapes Go.ChangeAt Go.RowKit Go.Lib Go.Sort
set_option linter.unusedVariables false
/-- The tables and variables that the text package reads. -/
structure Lw (w : World) : Prop where
  tb : Tp.Tb w
  sp : TabIs Tryz.prog w "strings.asciiSpace" .u8 asciiSpaceTab
  pw : TabIs Tryz.prog w "internal/strconv.uint64pow10" .u64 pow10Tab
  es : ∃ ev, w.cell? ⟨8, 0, none⟩ = some ev ∧ (ev = .nilIface ∨ ∃ te pe, ev = .iface te pe)
  er : ∃ ev, w.cell? ⟨9, 0, none⟩ = some ev ∧ (ev = .nilIface ∨ ∃ te pe, ev = .iface te pe)
  ml : ∃ m, w.cell? ⟨4, 0, none⟩ = some (.int .i64 m)
theorem gSp : Tryz.prog.globalNamed "strings.asciiSpace" = some 5 := by kernel_rfl
theorem gPw : Tryz.prog.globalNamed "internal/strconv.uint64pow10" = some 6 := by kernel_rfl
theorem tab_below {w w' : World} {n : String} {g : Nat} {k : IntKind} {zs : List Int} (hg : Tryz.prog.globalNamed n = some g) (h0 : zs ≠ []) (h : TabIs Tryz.prog w n k zs) (hb : Below w.heap.size w w') : TabIs Tryz.prog w' n k zs := by
  unfold TabIs at h ⊢
  have hc := World.var?_cell hg h 0
  have hlt : g < w.heap.size := by
    refine World.block_lt_of_cell? w ⟨g, 0, none⟩ (u := (zs.map fun z => Value.int k z).toArray[0]'(by cases zs with | nil => exact absurd rfl h0 | cons z l => simp)) ?_
    exact hc.trans (Array.getElem?_eq_getElem _)
  exact var?_below hb hg hlt h
theorem Lw.below {w w' : World} (h : Lw w) (hb : Below w.heap.size w w') : Lw w' := by
  have key : ∀ (a : Addr) (v : Value), w.cell? a = some v → w'.cell? a = some v := fun a v hc => by rw [hb.cell (World.block_lt_of_cell? w _ hc)]; exact hc
  obtain ⟨e1, h1, h1'⟩ := h.es
  obtain ⟨e2, h2, h2'⟩ := h.er
  obtain ⟨m, h3⟩ := h.ml
  exact ⟨h.tb.below hb, tab_below gSp (by decide) h.sp hb, tab_below gPw (by decide) h.pw hb, ⟨e1, key _ _ h1, h1'⟩, ⟨e2, key _ _ h2, h2'⟩, ⟨m, key _ _ h3⟩⟩
theorem itoaC (n : Int) (h0 : -9223372036854775808 ≤ n) (h1 : n ≤ 9223372036854775807) (w : World) (hL : Lw w) :
    Calls Tryz.prog 66 #[.int .i64 n] w fun e w' => e = .returned (str (itoa n)) ∧ Below w.heap.size w w' :=
  (Tryz.strconv_Itoa n h0 h1 w hL.pw).mono fun e w' ⟨he, k, os, hw⟩ => ⟨he, by rw [hw]; exact below_regrown w _ os⟩
def strs (ws : List Txt) : List Value := ws.map fun l => str l
theorem asciiB (l : Txt) (h : (l.all fun b => decide (b.toNat < 128)) = true) : ∀ (j : Nat) (b : UInt8), l[j]? = some b → b.toNat < 128 := fun j b hj => by
  have := List.all_eq_true.1 h b (List.mem_of_getElem? hj)
  simpa using this
theorem fieldsC (ws : List Txt) (hws : ws = aluW ∨ ws = cndW) (w : World) (hL : Lw w) :
    Calls Tryz.prog 65 #[str (joinW ws)] w fun e w' => e = .returned (.slice (some ⟨w.heap.size, 0, none⟩) ws.length ws.length) ∧ w' = w.alloc (.cells (strs ws).toArray 9) := by
  have hf : fields (joinW ws) = ws := by rcases hws with rfl | rfl <;> decide +kernel
  have ha : ((joinW ws).all fun b => decide (b.toNat < 128)) = true := by rcases hws with rfl | rfl <;> decide +kernel
  have hz : (⟨(joinW ws).toArray⟩ : ByteArray).size < 4294967281 := by rcases hws with rfl | rfl <;> decide +kernel
  have h := Tryz.strings_Fields_laid ⟨(joinW ws).toArray⟩ w hz (asciiB _ ha) hL.sp
  rw [show (⟨(joinW ws).toArray⟩ : ByteArray).data.toList = joinW ws from rfl, hf] at h
  exact h
theorem fieldsN (ws : List Txt) (hws : ws = aluW ∨ ws = cndW) (w : World) (hL : Lw w) :
    Calls Tryz.prog 65 #[str (joinW ws)] w fun e w' => ∃ n, e = .returned (.slice (some ⟨n, 0, none⟩) ws.length ws.length) ∧ (∀ j u, (strs ws)[j]? = some u → w'.cell? ⟨n, j, none⟩ = some u) ∧ Below w.heap.size w w' :=
  (fieldsC ws hws w hL).mono fun e w' ⟨he, hw⟩ => ⟨w.heap.size, he, fun j u hj => by
    rw [hw, World.cell?_alloc_at _ _ _ _ rfl]
    simpa using hj, by rw [hw]; exact (Below.refl _ _).alloc (Nat.le_refl _) _⟩
def Pl.showV (p : Pl) (v : Int) : Txt := if p.ws = [] then p.mark :: itoa (p.times * v) else p.ws[v.toNat]?.getD []
theorem Pl.show_eq (p : Pl) (s : Nm) : p.show s = p.showV (s.get p.of) := rfl
theorem plc_ws {c : UInt8} {p : Pl} (h : plc c = some p) : p.ws = [] ∨ p.ws = aluW ∨ p.ws = cndW := by
  unfold plc at h
  repeat' (split at h)
  all_goals first | (cases h; first | (left; rfl) | (right; left; rfl) | (right; right; rfl)) | cases h
theorem joinW_ne {ws : List Txt} (h : ws = aluW ∨ ws = cndW) : (!(⟨(joinW ws).toArray⟩ : ByteArray).toList.isEmpty) = true := by rcases h with rfl | rfl <;> decide +kernel
set_option maxHeartbeats 2000000 in
set_option maxRecDepth 100000 in
theorem showC (of times : Nat) (ws : List Txt) (mark : UInt8) (hws : ws = [] ∨ ws = aluW ∨ ws = cndW) (b : Nat) (v : Int) (w : World) (hL : Lw w) (hc : w.cell? ⟨b, 1 + of, none⟩ = some (.int .i64 v)) (ht : times ≤ 4)
    (hv : if ws = [] then -100000 ≤ (times : Int) * v ∧ (times : Int) * v ≤ 100000 else 0 ≤ v ∧ v < ws.length) :
    Calls Tryz.prog 49 #[plV b (some ⟨of, ws, mark, times⟩)] w fun e w' => e = .returned (str ((Pl.mk of ws mark times).showV v)) ∧ Below w.heap.size w w' := by
  have hbl : b < w.heap.size := World.block_lt_of_cell? w _ hc
  by_cases h0 : ws = []
  · subst h0
    simp only [if_true] at hv
    have hit := fun W hW => itoaC ((times : Int) * v) (by omega) (by omega) W hW
    have hlen := itoa_len ((times : Int) * v) hv.1 hv.2
    have hmul : IntKind.i64.wrap ((times : Int) * v) = (times : Int) * v := IntWalk.i64_in _ (by omega)
    show Calls Tryz.prog 49 #[.agg #[.pointer (some ⟨b, 1 + of, none⟩), .string ⟨#[]⟩, .string ⟨#[mark]⟩, .int .i64 times]] w fun e w' => e = .returned (str (mark :: itoa ((times : Int) * v))) ∧ Below w.heap.size w w'
    generalize itoa ((times : Int) * v) = L at *
    have q0 : ∀ j, (w.alloc (.cells #[.pointer (some ⟨b, 1 + of, none⟩), .string ⟨#[]⟩, .string ⟨#[mark]⟩, .int .i64 times] 95)).cell? ⟨w.heap.size, j, none⟩ = (#[.pointer (some ⟨b, 1 + of, none⟩), .string ⟨#[]⟩, .string ⟨#[mark]⟩, .int .i64 times] : Array Value)[j]? := fun j => World.cell?_alloc_at _ _ _ _ rfl
    have c1 : (w.alloc (.cells #[.pointer (some ⟨b, 1 + of, none⟩), .string ⟨#[]⟩, .string ⟨#[mark]⟩, .int .i64 times] 95)).cell? ⟨b, 1 + of, none⟩ = some (.int .i64 v) := by rw [World.cell?_alloc_old _ _ _ (Nat.ne_of_lt hbl)]; exact hc
    have r0 := fun d os => cell_regrown (q0 0) d os
    have r2 := fun d os => cell_regrown (q0 2) d os
    have r3 := fun d os => cell_regrown (q0 3) d os
    have rc := fun d os => cell_regrown c1 d os
    have hb1 : Below w.heap.size w (w.alloc (.cells #[.pointer (some ⟨b, 1 + of, none⟩), .string ⟨#[]⟩, .string ⟨#[mark]⟩, .int .i64 times] 95)) := (Below.refl _ _).alloc (Nat.le_refl _) _
    have HI := Lib.hid hit; have HL := Lib.hid hL; have HB := Lib.hid hb1
    clear hit hL hc c1 hv q0 hb1
    go_enter Tryz.func49, Tryz.ntmps49
    go_wp2_with fail
    refine wp_region_quiet_below (by kernel_rfl) (by kernel_rfl) ?_
    repeat (go_big_quiet_step ((go_at_call 66; exact Calls.regrown_of (HI.out _ (HL.out.below (HB.out.trans ((below_regrown _ _ _).mono HB.out.size)))))))
    refine wpQuiet_nil ?_
    intro _ hw'
    obtain ⟨⟨dq, osq⟩, hw''⟩ := hw'
    subst hw''
    have HB2 := Lib.hid (HB.out.trans ((below_regrown _ dq osq).mono HB.out.size))
    clear r0 r2 r3 rc
    go_wp2_with fail
    go_ret
    exact ⟨congrArg (fun x => Ending.returned (.string x)) (str_app [mark] L), HB2.out⟩
  · have hw := hws.resolve_left h0
    simp only [h0, if_false] at hv
    obtain ⟨h1, h2⟩ := hv
    obtain ⟨j, rfl⟩ := Int.eq_ofNat_of_zero_le h1
    have hj : j < ws.length := by omega
    have hsv : (Pl.mk of ws mark times).showV (j : Int) = ws[j] := by
      unfold Pl.showV
      rw [if_neg h0]
      simp [List.getElem?_eq_getElem hj]
    rw [hsv]
    have hf : ∀ W, Lw W → Calls Tryz.prog 65 #[.string ⟨(joinW ws).toArray⟩] W fun e w' => ∃ n, e = .returned (.slice (some ⟨n, 0, none⟩) ws.length ws.length) ∧ (∀ j u, (strs ws)[j]? = some u → w'.cell? ⟨n, j, none⟩ = some u) ∧ Below W.heap.size W w' := fun W hW => fieldsN ws hw W hW
    have hjc : (strs ws)[j]? = some (str ws[j]) := by unfold strs; rw [List.getElem?_map, List.getElem?_eq_getElem hj]; rfl
    have hne := joinW_ne hw
    have hm : (if ws = [] then [mark] else []) = ([] : Txt) := if_neg h0
    have hpl : plV b (some ⟨of, ws, mark, times⟩) = .agg #[.pointer (some ⟨b, 1 + of, none⟩), .string ⟨(joinW ws).toArray⟩, .string ⟨#[]⟩, .int .i64 times] := by unfold plV; simp only [hm]
    rw [hpl]
    have hln : ws.length ≤ 16 := by rcases hw with rfl | rfl <;> decide
    generalize hT : (joinW ws).toArray = T at *
    generalize ws[j] = x at *
    have HF := Lib.hid hf; have HJ := Lib.hid hjc; have HT := Lib.hid hT
    have p0 := World.cell?_alloc_old w (.cells #[.pointer (some ⟨b, 1 + of, none⟩), .string ⟨T⟩, .string ⟨#[]⟩, .int .i64 times] 95) ⟨b, 1 + of, none⟩ (Nat.ne_of_lt hbl)
    rw [hc] at p0
    have hb1 : Below w.heap.size w (w.alloc (.cells #[.pointer (some ⟨b, 1 + of, none⟩), .string ⟨T⟩, .string ⟨#[]⟩, .int .i64 times] 95)) := (Below.refl _ _).alloc (Nat.le_refl _) _
    have HL := Lib.hid hL; have HB := Lib.hid hb1
    clear hf hjc hT hL hc hb1 hm hpl hsv hws hw h0 h1 h2
    go_enter Tryz.func49, Tryz.ntmps49
    go_wp2_with fail
    have z0 : (w.alloc (.cells #[.pointer (some ⟨b, 1 + of, none⟩), .string ⟨T⟩, .string ⟨#[]⟩, .int .i64 times] 95)).cell? ⟨w.heap.size, 0, none⟩ = some (.pointer (some ⟨b, 1 + of, none⟩)) := World.cell?_alloc_at _ _ _ _ rfl
    have z1 : (w.alloc (.cells #[.pointer (some ⟨b, 1 + of, none⟩), .string ⟨T⟩, .string ⟨#[]⟩, .int .i64 times] 95)).cell? ⟨w.heap.size, 1, none⟩ = some (.string ⟨T⟩) := World.cell?_alloc_at _ _ _ _ rfl
    have hsz : w.heap.size < (w.alloc (.cells #[.pointer (some ⟨b, 1 + of, none⟩), .string ⟨T⟩, .string ⟨#[]⟩, .int .i64 times] 95)).heap.size := by simp
    generalize w.alloc (.cells #[.pointer (some ⟨b, 1 + of, none⟩), .string ⟨T⟩, .string ⟨#[]⟩, .int .i64 times] 95) = w1 at *
    have hbl1 : b < w1.heap.size := Nat.lt_trans hbl hsz
    generalize hn0 : w.heap.size = n0 at *
    have hlb : ∀ w', Below n0 w w' → Lw w' := fun w' hb => HL.out.below (hn0 ▸ hb)
    have HLB := Lib.hid hlb; have HN0 := Lib.hid hn0
    clear hn0 hlb
    go_region_with
      ((go_at_call 65; refine (HF.out _ (HLB.out _ HB.out.drew)).mono ?_; rintro e w3 ⟨n, rfl, hx, hb3⟩; have y0 := (hb3.cell (p := ⟨n0, 0, none⟩) hsz).trans z0; have y1 := (hb3.cell (p := ⟨n0, 1, none⟩) hsz).trans z1; have y2 := (hb3.cell (p := ⟨b, 1 + of, none⟩) hbl1).trans p0; have yx := hx _ _ HJ.out; have HB3 : Hid (RowKit.Below n0 w w3) := Lib.hid (HB.out.drew.trans (hb3.mono (Nat.le_of_lt hsz))); clear hx hb3))
    all_goals
      go_wp2_with fail
      go_ret
      exact ⟨rfl, HN0.out ▸ HB3.out⟩
end Go.Proofs.YtnngnfajmncjpaaGreatDoor.Tx
