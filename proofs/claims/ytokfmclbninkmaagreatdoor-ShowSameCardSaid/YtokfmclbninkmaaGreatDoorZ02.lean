/- DERIVED. ShBd in one text. By an AI agent. -/
import Derived.Test.YtokfmclbninkmaaGreatDoorRows
import Derived.Test.YtokfmclbninkmaaGreatDoorZ01
import Derived.WalkKit
import Derived.RegionTactic
import Derived.ProofKit
import Derived.Lib.Hide
import Derived.Lib.Builder
import Derived.Lib.FrozenHead2
import Derived.Lib.OthersKept
import Derived.Lib.RuneBytes
import Derived.Lib.Walk
import Derived.Below
import Derived.BigRegion
import Derived.Lib.UnsafeStr
/- DERIVED. Contracts of strings.Builder's Len, WriteString and String, of the builder that lies in a writer of package show. By an AI agent. -/
namespace Go.Proofs.YtokfmclbninkmaaGreatDoor.Wr
open Go.ChangeShapes Go.WideShapes Go.ChangeAt Go.RowKit Go.Lib
set_option linter.unusedVariables false
theorem szB : (Tryz.prog.info? 56).map (·.size) = some 2 := by kernel_rfl
theorem liB : liesAt Tryz.prog Tryz.prog.depth 58 (2 / Tryz.prog.cellsOf 58) 0 56 1 = true := by kernel_rfl
theorem inB : (Tryz.prog.info? 5).map (fun i => (i.zero, i.size, i.bytes)) = some (some (.int .u8 0), 1, 1) := by kernel_rfl
abbrev IsW (b : Nat) (l : List UInt8) (w : World) : Prop := IsBuilderF 58 5 b b (byteCells l) w
/-- What a call on a builder leaves: what lay below it, and an iterator behind it. -/
structure Kept (b : Nat) (w w' : World) : Prop where
  low : Below b w w'
  oth : OthersKept 5 (some b) w w'
  le : w.heap.size ≤ w'.heap.size
theorem bytes_app (l m : List UInt8) : byteCells (l ++ m) = byteCells l ++ byteCells m := by simp [byteCells]
theorem str_cells (l : List UInt8) : strCells ⟨l.toArray⟩ = byteCells l := by simp [strCells, byteCells]
theorem IsW.lt {b : Nat} {l : List UInt8} {w : World} (h : IsW b l w) : b < w.heap.size := by
  rcases h with h | h <;> exact h.lt
set_option maxHeartbeats 1000000 in
set_option maxRecDepth 100000 in
theorem check (b : Nat) (bs : List Value) (w : World) (h : IsBuilderF 58 5 b b bs w) :
    Calls Tryz.prog 79 #[.pointer (some ⟨b, 0, none⟩)] w fun e w' => e = .returned (.tuple #[]) ∧ BuilderAtF 58 5 b b (.pointer (some ⟨b, 0, none⟩)) bs w' ∧ Kept b w w' := by
  obtain ⟨j, hj, hjs⟩ := Option.map_eq_some_iff.1 szB
  rcases h with h | h
  · have h0 := h.cell0
    have hsh := h.shape
    have hfz := h.frozen0
    have HN := Lib.hid (show BuilderAtF 58 5 b b (.pointer (some ⟨b, 0, none⟩)) bs (w.setCell ⟨b, 0, none⟩ (.pointer (some ⟨b, 0, none⟩))) from h.used _)
    clear h
    go_enter Tryz.func79, Tryz.ntmps79
    go_wp2_with fail
    rw [Lib.run_to_unsafe w ⟨b, 0, none⟩ Tryz.underlying53 Tryz.underlying115 hj (by rw [hjs]; decide) hsh (Nat.zero_lt_succ 1)]
    simp only [Result.andThen]
    rw [Oper.upon_value]
    go_wp2_with fail
    rw [run_callFunc_extern Tryz.func95 (by kernel_rfl) (by kernel_rfl) (by kernel_rfl) (e := Extern.AbiNoEscape.same) (by kernel_rfl), Lib.run_noEscape]
    simp only [Result.andThen]
    rw [Oper.upon_value]
    go_wp2_with fail
    rw [Lib.run_from_unsafe w ⟨b, 0, none⟩ Tryz.underlying115 Tryz.underlying53 hj hsh liB]
    simp only [Result.andThen]
    rw [Oper.upon_value]
    go_wp2_with fail
    go_end0
    refine ⟨rfl, HN.out, (Below.refl b w).setCell (p := ⟨b, 0, none⟩) (Nat.le_refl _) _, (OthersKept.refl _ _ w).setCell ⟨b, 0, none⟩ rfl _, by simp [World.setCell]⟩
  · have h0 := h.cell0
    have HN := Lib.hid h
    clear h
    go_enter Tryz.func79, Tryz.ntmps79
    go_wp2_with fail
    rw [Lib.run_neq_ptr_same w _ Tryz.underlying53 hj]
    go_wp2_with fail
    go_end0
    exact ⟨rfl, HN.out, Below.refl b _, OthersKept.refl _ _ _, Nat.le_refl _⟩
set_option maxHeartbeats 2000000 in
set_option maxRecDepth 100000 in
theorem wstr (b : Nat) (l m : List UInt8) (w : World) (h : IsW b l w) (hlen : l.length + m.length ≤ 1000000000) :
    Calls Tryz.prog 62 #[.pointer (some ⟨b, 0, none⟩), .string ⟨m.toArray⟩] w fun e w' => (∃ x, e = .returned (.tuple #[x, .nilIface])) ∧ IsW b (l ++ m) w' ∧ Kept b w w' := by
  obtain ⟨i0, hi, hz0, hz1, hz2⟩ := info_parts inB
  have hsz : (⟨m.toArray⟩ : ByteArray).size = m.length := by simp [ByteArray.size]
  have hbw := h.lt
  have hck := check b _ w h
  have HC := Lib.hid hck; have HS := Lib.hid hsz
  clear hck h hsz
  go_enter Tryz.func62, Tryz.ntmps62
  go_wp2_with fail
  refine HC.out.mono ?_
  rintro e w1 ⟨rfl, h1, k1⟩
  obtain ⟨hB, v, hbk, hown, hne⟩ := h1
  obtain ⟨ao, n', cap, rfl⟩ : ∃ ao n' cap, v = .slice ao n' cap := by
    rcases hown.2 with ⟨hv, _⟩ | ⟨g, cap, cur, fz, hv, _⟩ <;> exact ⟨_, _, _, hv⟩
  have c1 : w1.cell? ⟨b, 1, none⟩ = some (.slice ao n' cap) := by rw [Lib.cell_of_heap hbk]; rfl
  have g3 : (byteCells l).length + (⟨m.toArray⟩ : ByteArray).size ≤ 140737488355328 := by rw [HS.out, byteCells_length]; omega
  have HO := Lib.hid hown; have HK := Lib.hid k1; have HB := Lib.hid hbk; have HN := Lib.hid hne; have G3 := Lib.hid g3
  have H63 := Lib.hid (show (byteCells l).length + (⟨m.toArray⟩ : ByteArray).size ≤ maxLen by unfold maxLen; omega)
  have HBA := Lib.hid (show b ≤ w1.heap.size by have := k1.le; omega)
  clear hown k1 hbk hne g3
  go_wp2_with (at_builtin; refine Lib.wpList_append_own_stringF _ rfl _ _ 54 9 rfl b 5 i0 Tryz.underlying54 Tryz.underlying9 hi hz0 hz1 hz2 _ _ _ rfl HO.out ⟨m.toArray⟩ rfl H63.out G3.out HBA.out ?_)
  intro v' w2 hown' hgrow _
  clear c1
  have hlt : b < w1.heap.size := (Array.getElem?_eq_some_iff.1 HB.out).1
  have hb2 : w2.heap[b]? = some (.cells #[.pointer (some ⟨b, 0, none⟩), .slice ao n' cap] 58 (0, 0)) := by
    rw [hgrow.block b hlt (fun e => HN.out e.symm)]
    exact HB.out
  have d1 : w2.cell? ⟨b, 1, none⟩ = some (.slice ao n' cap) := by rw [Lib.cell_of_heap hb2]; rfl
  have f1 : w2.frozen? ⟨b, 1, none⟩ = false := Lib.frozen_of_heap hb2 1
  obtain ⟨ao2, n2, cap2, rfl⟩ : ∃ ao n' cap, v' = .slice ao n' cap := by
    rcases hown'.2 with ⟨hv, _⟩ | ⟨g, cap, cur, fz, hv, _⟩ <;> exact ⟨_, _, _, hv⟩
  have H2 := Lib.hid hb2; have HO2 := Lib.hid hown'; have HG := Lib.hid hgrow
  clear hb2 hown' hgrow
  go_wp2_with fail
  go_ret2
  refine ⟨⟨_, rfl⟩, Or.inr ?_, (HK.out.low.grown HG.out (Nat.le_of_lt hlt) (fun k hk => (HO.out.lt k hk).1)).setCell (p := ⟨b, 1, none⟩) (Nat.le_refl _) _, (HK.out.oth.grown HG.out (ownsRowF_kind HO.out)).setCell ⟨b, 1, none⟩ rfl _, ?_⟩
  · have e2 : byteCells (l ++ m) = byteCells l ++ strCells ⟨m.toArray⟩ := by rw [bytes_app, str_cells]
    rw [e2]
    exact Lib.BuilderAtF.put (T := 58) (Nat.le_refl _) H2.out (by rw [List.length_append, Lib.strCells_length]; exact HO2.out) (by decide)
  · have a1 := HK.out.le; have a2 := HG.out.size
    simp [World.setCell]
    omega
theorem isW_below {b : Nat} {l : List UInt8} {w w' : World} (h : IsW b l w) (hb : Below w.heap.size w w') : IsW b l w' := by
  have key : ∀ p bs, BuilderAtF 58 5 b b p bs w → BuilderAtF 58 5 b b p bs w' := by
    intro p bs h
    have hlt := h.lt
    obtain ⟨hB, v, hbk, hown, hne⟩ := h
    refine ⟨hB, v, (hb.block b hlt).trans hbk, hown.kept (row := none) ⟨hb.os, hb.tape, hb.output, hb.size, fun k hk _ => hb.block k hk⟩ ?_, hne⟩
    cases hv : v.ownBlock with
    | none => exact Or.inl rfl
    | some q => exact Or.inr (by simp)
  rcases h with h | h
  · exact Or.inl (key _ _ h)
  · exact Or.inr (key _ _ h)
theorem Kept.refl (b : Nat) (w : World) : Kept b w w := ⟨Below.refl b w, OthersKept.refl _ _ w, Nat.le_refl _⟩
theorem Kept.trans {b : Nat} {w w1 w2 : World} (h : Kept b w w1) (k : Kept b w1 w2) : Kept b w w2 := ⟨h.low.trans k.low, h.oth.trans k.oth, Nat.le_trans h.le k.le⟩
theorem kept_below {b : Nat} {w w' : World} (hb : Below w.heap.size w w') (h : b < w.heap.size) : Kept b w w' :=
  ⟨hb.mono (Nat.le_of_lt h), fun k o hk _ _ => (hb.block k (Array.getElem?_eq_some_iff.1 hk).1).trans hk, hb.size⟩
theorem Kept.blk {b g : Nat} {w w' : World} {t : TypeId} {cs : Array Value} (h : Kept b w w') (hb : Args.Blk w g t cs) (hg : g ≠ b) (ht : t ≠ 5) : Args.Blk w' g t cs :=
  h.oth g _ hb (fun e => hg (Option.some.inj e)) fun c fz e => ht (by cases e; rfl)
set_option maxHeartbeats 1000000 in
set_option maxRecDepth 100000 in
theorem wlen (b : Nat) (l : List UInt8) (w : World) (h : IsW b l w) : Calls Tryz.prog 61 #[.pointer (some ⟨b, 0, none⟩)] w fun e w' => e = .returned (.int .i64 (l.length : Int)) ∧ w = w' := by
  obtain ⟨p, hB, v, hbk, hown, hne⟩ : ∃ p, BuilderAtF 58 5 b b p (byteCells l) w := by
    rcases h with h | h
    · exact ⟨_, h⟩
    · exact ⟨_, h⟩
  rw [byteCells_length] at hown
  obtain ⟨ao, cap, rfl⟩ : ∃ ao cap, v = .slice ao l.length cap := by
    rcases hown.2 with ⟨hv, h0⟩ | ⟨g, cap, cur, fz, hv, _⟩
    · exact ⟨none, 0, by rw [hv, h0]⟩
    · exact ⟨_, _, hv⟩
  have c1 : w.cell? ⟨b, 1, none⟩ = some (.slice ao l.length cap) := by rw [Lib.cell_of_heap hbk]; rfl
  clear hbk hown hne
  go_enter Tryz.func61, Tryz.ntmps61
  go_wp2_with fail
  go_ret
  exact ⟨rfl, rfl⟩
theorem uPB : Tryz.prog.underlying 82 = some (.pointer 5) := by kernel_rfl
theorem cB1 : Tryz.prog.cellsOf 5 = 1 := by kernel_rfl
set_option maxHeartbeats 2000000 in
set_option maxRecDepth 100000 in
theorem wstring_some (b : Nat) (l : List UInt8) (w : World) (h : IsW b l w) (h0 : l ≠ []) : Calls Tryz.prog 32 #[.pointer (some ⟨b, 0, none⟩)] w fun e w' => e = .returned (.string ⟨l.toArray⟩) ∧ Below b w w' := by
  obtain ⟨p, hB, v, hbk, hown, hne⟩ : ∃ p, BuilderAtF 58 5 b b p (byteCells l) w := by
    rcases h with h | h
    · exact ⟨_, h⟩
    · exact ⟨_, h⟩
  have hl0 : l.length ≠ 0 := by simpa using h0
  rw [byteCells_length] at hown
  obtain ⟨g, cap, cur, fz, rfl, hbg, hg, hfz, hnc, hcm, hcs, htake⟩ : ∃ g cap cur fz, v = .slice (some ⟨g, 0, none⟩) l.length cap ∧ b ≤ g ∧ w.heap[g]? = some (.cells cur 5 fz) ∧ fz.2 ≤ l.length * 1 ∧ l.length ≤ cap ∧ cap ≤ maxLen ∧ cur.size = cap * 1 ∧ cur.toList.take (l.length * 1) = byteCells l := by
    rcases hown.2 with ⟨_, hz⟩ | ⟨g, cap, cur, fz, hv, r⟩
    · exact absurd hz hl0
    · exact ⟨g, cap, cur, fz, hv, r⟩
  have c1 : w.drew.cell? ⟨b, 1, none⟩ = some (.slice (some ⟨g, 0, none⟩) l.length cap) := by
    have : w.drew.heap[b]? = some (.cells #[p, .slice (some ⟨g, 0, none⟩) l.length cap] 58 (0, 0)) := hbk
    rw [Lib.cell_of_heap this]; rfl
  have hSD : (Builtin.unsafeSliceData_ #[54] 82 #[.slice (some ⟨g, 0, none⟩) l.length cap]).run Tryz.prog w.drew = .ok (.pointer (some ⟨g, 0, none⟩)) w.drew :=
    Lib.run_unsafeSliceData_row _ _ _ _ _ _ (by omega)
  have hUS : (Builtin.unsafeString_ #[82, 3] 9 #[.pointer (some ⟨g, 0, none⟩), .int .i64 l.length]).run Tryz.prog w.drew = .ok (.string ⟨l.toArray⟩) (w.drew.freeze ⟨g, 0, none⟩ l.length) := by
    refine Lib.run_unsafeString_row w.drew 82 3 9 5 uPB cB1 g cur.size (by have hg' : w.drew.heap[g]? = some (.cells cur 5 fz) := hg; simp [World.shape?, hg']) l h0 (by omega) (by unfold maxLen at hcm; omega) ?_
    intro j x hx
    have := hown.cells (g := g) rfl j (.int .u8 x.toNat) (by simp [byteCells, hx])
    exact this
  have HBG := Lib.hid hbg
  clear hbg h hown hne hbk hfz hnc hcm hcs htake hg h0 hl0
  go_enter Tryz.func32, Tryz.ntmps32
  go_wp2_with fail
  go_region
  all_goals (go_wp2_with fail; go_ret; exact ⟨rfl, Lib.below_freeze (Below.drew (Below.refl b w)) (p := ⟨g, 0, none⟩) HBG.out _⟩)
set_option maxHeartbeats 2000000 in
set_option maxRecDepth 100000 in
theorem wstring_none (b : Nat) (w : World) (h : IsW b [] w) : Calls Tryz.prog 32 #[.pointer (some ⟨b, 0, none⟩)] w fun e w' => e = .returned (.string ⟨#[]⟩) ∧ Below b w w' := by
  have hlt := h.lt
  obtain ⟨p, hB, v, hbk, hown, hne⟩ : ∃ p, BuilderAtF 58 5 b b p [] w := by
    rcases h with h | h
    · exact ⟨_, h⟩
    · exact ⟨_, h⟩
  have hUS : ∀ (W : World) (q : Option Addr), (Builtin.unsafeString_ #[82, 3] 9 #[.pointer q, .int .i64 0]).run Tryz.prog W = .ok (.string .empty) W := fun W q => Lib.run_unsafeString_none W _ _ _ q
  rcases hown.2 with ⟨rfl, _⟩ | ⟨g, cap, cur, fz, rfl, hbg, hg, _, _, _, _⟩
  · have c1 : w.drew.cell? ⟨b, 1, none⟩ = some (.slice none 0 0) := by
      have : w.drew.heap[b]? = some (.cells #[p, .slice none 0 0] 58 (0, 0)) := hbk
      rw [Lib.cell_of_heap this]; rfl
    have hSD : (Builtin.unsafeSliceData_ #[54] 82 #[.slice none 0 0]).run Tryz.prog w.drew = .ok (.pointer none) w.drew := rfl
    clear h hown hne hbk
    go_enter Tryz.func32, Tryz.ntmps32
    go_wp2_with fail
    go_region
    all_goals (go_wp2_with fail; go_ret; exact ⟨rfl, Below.drew (Below.refl b w)⟩)
  · by_cases hc0 : cap = 0
    · subst hc0
      have c1 : w.drew.cell? ⟨b, 1, none⟩ = some (.slice (some ⟨g, 0, none⟩) 0 0) := by
        have : w.drew.heap[b]? = some (.cells #[p, .slice (some ⟨g, 0, none⟩) 0 0] 58 (0, 0)) := hbk
        rw [Lib.cell_of_heap this]; rfl
      have hSD : (Builtin.unsafeSliceData_ #[54] 82 #[.slice (some ⟨g, 0, none⟩) 0 0]).run Tryz.prog w.drew = .ok (.pointer (some ⟨w.drew.heap.size, 0, none⟩)) (w.drew.alloc (.view ⟨g, 0, none⟩ 5)) :=
        Lib.run_unsafeSliceData_zero w.drew _ _ 5 uPB ⟨g, 0, none⟩ 0 (5, cur.size) (by have hg' : w.drew.heap[g]? = some (.cells cur 5 fz) := hg; simp [World.shape?, hg'])
      have c2 : (w.drew.alloc (.view ⟨g, 0, none⟩ 5)).cell? ⟨b, 1, none⟩ = some (.slice (some ⟨g, 0, none⟩) 0 0) := by
        have : (w.drew.alloc (.view ⟨g, 0, none⟩ 5)).heap[b]? = _ := (Lib.alloc_old w.drew _ b hlt).trans hbk
        rw [Lib.cell_of_heap this]; rfl
      have c3 : (w.alloc (.view ⟨g, 0, none⟩ 5)).drew.cell? ⟨b, 1, none⟩ = some (.slice (some ⟨g, 0, none⟩) 0 0) := c2
      have c0 : w.cell? ⟨b, 1, none⟩ = some (.slice (some ⟨g, 0, none⟩) 0 0) := c1
      have HLT := Lib.hid hlt
      clear h hown hne hbk hg hbg hlt
      go_enter Tryz.func32, Tryz.ntmps32
      go_wp2_with fail
      go_region
      all_goals (go_wp2_with fail; go_ret; exact ⟨rfl, (Below.drew (Below.refl b w)).alloc (Nat.le_of_lt HLT.out) _⟩)
    · have c1 : w.drew.cell? ⟨b, 1, none⟩ = some (.slice (some ⟨g, 0, none⟩) 0 cap) := by
        have : w.drew.heap[b]? = some (.cells #[p, .slice (some ⟨g, 0, none⟩) 0 cap] 58 (0, 0)) := hbk
        rw [Lib.cell_of_heap this]; rfl
      have hSD : (Builtin.unsafeSliceData_ #[54] 82 #[.slice (some ⟨g, 0, none⟩) 0 cap]).run Tryz.prog w.drew = .ok (.pointer (some ⟨g, 0, none⟩)) w.drew :=
        Lib.run_unsafeSliceData_row _ _ _ _ _ _ hc0
      clear h hown hne hbk hg hbg hc0
      go_enter Tryz.func32, Tryz.ntmps32
      go_wp2_with fail
      go_region
      all_goals (go_wp2_with fail; go_ret; exact ⟨rfl, Below.drew (Below.refl b w)⟩)
theorem wstring (b : Nat) (l : List UInt8) (w : World) (h : IsW b l w) : Calls Tryz.prog 32 #[.pointer (some ⟨b, 0, none⟩)] w fun e w' => e = .returned (.string ⟨l.toArray⟩) ∧ Below b w w' := by
  cases l with
  | nil => exact wstring_none b w h
  | cons x r => exact wstring_some b (x :: r) w h (by simp)
end Go.Proofs.YtokfmclbninkmaaGreatDoor.Wr
