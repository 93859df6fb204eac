/- DERIVED. TxBld in one text. By an AI agent. -/
import Derived.Test.YtnngnfajmncjpaaGreatDoorRows
import Derived.Test.YtnngnfajmncjpaaGreatDoorZ06
import Derived.WalkKit
import Derived.RegionTactic
import Derived.ProofKit
import Derived.Lib.Hide
import Derived.Lib.Builder
import Derived.Lib.FrozenHead2
import Derived.Lib.OthersKept
import Derived.Lib.RuneBytes
import Derived.Lib.Walk
import Derived.Below
/- DERIVED. Contracts of strings.Builder's writers at this translation (the statement that a builder in another place would come to is left out by the loader: no way of ours comes there). By an AI agent. -/
namespace Go.Proofs.YtnngnfajmncjpaaGreatDoor.Bld
open Go.ChangeShapes Go.WideShapes Go.ChangeAt Go.RowKit Go.Lib
set_option linter.unusedVariables false
theorem szB : (Tryz.prog.info? 33).map (·.size) = some 2 := by kernel_rfl
theorem liB : liesAt Tryz.prog Tryz.prog.depth 33 (2 / Tryz.prog.cellsOf 33) 0 33 1 = true := by kernel_rfl
theorem inB : (Tryz.prog.info? 5).map (fun i => (i.zero, i.size, i.bytes)) = some (some (.int .u8 0), 1, 1) := by kernel_rfl
abbrev IsB (b : Nat) (l : List UInt8) (w : World) : Prop := IsBuilderF 33 5 b b (byteCells l) w
/-- What a call on a builder leaves: what lay below it, and an iterator behind it. -/
structure Kept (b : Nat) (w w' : World) : Prop where
  low : Below b w w'
  oth : OthersKept 5 (some b) w w'
  le : w.heap.size ≤ w'.heap.size
theorem bytes_app (l m : List UInt8) : byteCells (l ++ m) = byteCells l ++ byteCells m := by simp [byteCells]
theorem str_cells (l : List UInt8) : strCells ⟨l.toArray⟩ = byteCells l := by simp [strCells, byteCells]
theorem IsB.lt {b : Nat} {l : List UInt8} {w : World} (h : IsB b l w) : b < w.heap.size := by
  rcases h with h | h <;> exact h.lt
set_option maxHeartbeats 1000000 in
set_option maxRecDepth 100000 in
theorem check (b : Nat) (bs : List Value) (w : World) (h : IsBuilderF 33 5 b b bs w) :
    Calls Tryz.prog 18 #[.pointer (some ⟨b, 0, none⟩)] w fun e w' => e = .returned (.tuple #[]) ∧ BuilderAtF 33 5 b b (.pointer (some ⟨b, 0, none⟩)) bs w' ∧ Kept b w w' := by
  obtain ⟨j, hj, hjs⟩ := Option.map_eq_some_iff.1 szB
  rcases h with h | h
  · have h0 := h.cell0
    have hsh := h.shape
    have hfz := h.frozen0
    have HN := Lib.hid (show BuilderAtF 33 5 b b (.pointer (some ⟨b, 0, none⟩)) bs (w.setCell ⟨b, 0, none⟩ (.pointer (some ⟨b, 0, none⟩))) from h.used _)
    clear h
    go_enter Tryz.func18, Tryz.ntmps18
    go_wp2_with fail
    rw [Lib.run_to_unsafe w ⟨b, 0, none⟩ Tryz.underlying30 Tryz.underlying69 hj (by rw [hjs]; decide) hsh (Nat.zero_lt_succ 1)]
    simp only [Result.andThen]
    rw [Oper.upon_value]
    go_wp2_with fail
    rw [run_callFunc_extern Tryz.func31 (by kernel_rfl) (by kernel_rfl) (by kernel_rfl) (e := Extern.AbiNoEscape.same) (by kernel_rfl), Lib.run_noEscape]
    simp only [Result.andThen]
    rw [Oper.upon_value]
    go_wp2_with fail
    rw [Lib.run_from_unsafe w ⟨b, 0, none⟩ Tryz.underlying69 Tryz.underlying30 hj hsh liB]
    simp only [Result.andThen]
    rw [Oper.upon_value]
    go_wp2_with fail
    go_end0
    refine ⟨rfl, HN.out, (Below.refl b w).setCell (p := ⟨b, 0, none⟩) (Nat.le_refl _) _, (OthersKept.refl _ _ w).setCell ⟨b, 0, none⟩ rfl _, by simp [World.setCell]⟩
  · have h0 := h.cell0
    have HN := Lib.hid h
    clear h
    go_enter Tryz.func18, Tryz.ntmps18
    go_wp2_with fail
    rw [Lib.run_neq_ptr_same w _ Tryz.underlying30 hj]
    go_wp2_with fail
    go_end0
    exact ⟨rfl, HN.out, Below.refl b _, OthersKept.refl _ _ _, Nat.le_refl _⟩
set_option maxHeartbeats 2000000 in
set_option maxRecDepth 100000 in
theorem wstr (b : Nat) (l m : List UInt8) (w : World) (h : IsB b l w) (hlen : l.length + m.length ≤ 1000000000) :
    Calls Tryz.prog 9 #[.pointer (some ⟨b, 0, none⟩), .string ⟨m.toArray⟩] w fun e w' => (∃ x, e = .returned (.tuple #[x, .nilIface])) ∧ IsB b (l ++ m) w' ∧ Kept b w w' := by
  obtain ⟨i0, hi, hz0, hz1, hz2⟩ := info_parts inB
  have hsz : (⟨m.toArray⟩ : ByteArray).size = m.length := by simp [ByteArray.size]
  have hbw := h.lt
  have hck := check b _ w h
  have HC := Lib.hid hck; have HS := Lib.hid hsz
  clear hck h hsz
  go_enter Tryz.func9, Tryz.ntmps9
  go_wp2_with fail
  refine HC.out.mono ?_
  rintro e w1 ⟨rfl, h1, k1⟩
  obtain ⟨hB, v, hbk, hown, hne⟩ := h1
  obtain ⟨ao, n', cap, rfl⟩ : ∃ ao n' cap, v = .slice ao n' cap := by
    rcases hown.2 with ⟨hv, _⟩ | ⟨g, cap, cur, fz, hv, _⟩ <;> exact ⟨_, _, _, hv⟩
  have c1 : w1.cell? ⟨b, 1, none⟩ = some (.slice ao n' cap) := by rw [Lib.cell_of_heap hbk]; rfl
  have g3 : (byteCells l).length + (⟨m.toArray⟩ : ByteArray).size ≤ 140737488355328 := by rw [HS.out, byteCells_length]; omega
  have HO := Lib.hid hown; have HK := Lib.hid k1; have HB := Lib.hid hbk; have HN := Lib.hid hne; have G3 := Lib.hid g3
  have H63 := Lib.hid (show (byteCells l).length + (⟨m.toArray⟩ : ByteArray).size ≤ maxLen by unfold maxLen; omega)
  have HBA := Lib.hid (show b ≤ w1.heap.size by have := k1.le; omega)
  clear hown k1 hbk hne g3
  go_wp2_with (at_builtin; refine Lib.wpList_append_own_stringF _ rfl _ _ 31 9 rfl b 5 i0 Tryz.underlying31 Tryz.underlying9 hi hz0 hz1 hz2 _ _ _ rfl HO.out ⟨m.toArray⟩ rfl H63.out G3.out HBA.out ?_)
  intro v' w2 hown' hgrow _
  clear c1
  have hlt : b < w1.heap.size := (Array.getElem?_eq_some_iff.1 HB.out).1
  have hb2 : w2.heap[b]? = some (.cells #[.pointer (some ⟨b, 0, none⟩), .slice ao n' cap] 33 (0, 0)) := by
    rw [hgrow.block b hlt (fun e => HN.out e.symm)]
    exact HB.out
  have d1 : w2.cell? ⟨b, 1, none⟩ = some (.slice ao n' cap) := by rw [Lib.cell_of_heap hb2]; rfl
  have f1 : w2.frozen? ⟨b, 1, none⟩ = false := Lib.frozen_of_heap hb2 1
  obtain ⟨ao2, n2, cap2, rfl⟩ : ∃ ao n' cap, v' = .slice ao n' cap := by
    rcases hown'.2 with ⟨hv, _⟩ | ⟨g, cap, cur, fz, hv, _⟩ <;> exact ⟨_, _, _, hv⟩
  have H2 := Lib.hid hb2; have HO2 := Lib.hid hown'; have HG := Lib.hid hgrow
  clear hb2 hown' hgrow
  go_wp2_with fail
  go_ret2
  refine ⟨⟨_, rfl⟩, Or.inr ?_, (HK.out.low.grown HG.out (Nat.le_of_lt hlt) (fun k hk => (HO.out.lt k hk).1)).setCell (p := ⟨b, 1, none⟩) (Nat.le_refl _) _, (HK.out.oth.grown HG.out (ownsRowF_kind HO.out)).setCell ⟨b, 1, none⟩ rfl _, ?_⟩
  · have e2 : byteCells (l ++ m) = byteCells l ++ strCells ⟨m.toArray⟩ := by rw [bytes_app, str_cells]
    rw [e2]
    exact Lib.BuilderAtF.put (Nat.le_refl _) H2.out (by rw [List.length_append, Lib.strCells_length]; exact HO2.out) (by decide)
  · have a1 := HK.out.le; have a2 := HG.out.size
    simp [World.setCell]
    omega
set_option maxHeartbeats 2000000 in
set_option maxRecDepth 100000 in
theorem wrune (b : Nat) (l : List UInt8) (c : UInt8) (hc : c.toNat < 128) (w : World) (h : IsB b l w) (hlen : l.length ≤ 1000000000) :
    Calls Tryz.prog 50 #[.pointer (some ⟨b, 0, none⟩), .int .i32 (c.toNat : Int)] w fun e w' => (∃ x, e = .returned (.tuple #[x, .nilIface])) ∧ IsB b (l ++ [c]) w' ∧ Kept b w w' := by
  have hrc : runeCells (c.toNat : Int) = [.int .u8 (c.toNat : Int)] := by unfold runeCells; rw [encodeRuneZ_one (by omega) (by omega)]; rfl
  have hbw := h.lt
  have hck := check b _ w h
  have HC := Lib.hid hck; have HR := Lib.hid hrc
  clear hck h hrc
  go_enter Tryz.func50, Tryz.ntmps50
  go_wp2_with fail
  refine HC.out.mono ?_
  rintro e w1 ⟨rfl, h1, k1⟩
  obtain ⟨hB, v, hbk, hown, hne⟩ := h1
  obtain ⟨ao, n', cap, rfl⟩ : ∃ ao n' cap, v = .slice ao n' cap := by
    rcases hown.2 with ⟨hv, _⟩ | ⟨g, cap, cur, fz, hv, _⟩ <;> exact ⟨_, _, _, hv⟩
  have c1 : w1.cell? ⟨b, 1, none⟩ = some (.slice ao n' cap) := by rw [Lib.cell_of_heap hbk]; rfl
  have har := Tryz.utf8_AppendRune_row b (.slice ao n' cap) _ _ (c.toNat : Int) (by omega) (by omega) w1 hown (by rw [byteCells_length]; omega) (by have := k1.le; omega)
  have HO := Lib.hid hown; have HK := Lib.hid k1; have HB := Lib.hid hbk; have HN := Lib.hid hne; have HA := Lib.hid har
  clear hown k1 hbk hne har
  go_wp2_with fail
  refine HA.out.mono ?_
  rintro e w2 ⟨v', rfl, hown', o, hgrow⟩
  have hlt : b < w1.heap.size := (Array.getElem?_eq_some_iff.1 HB.out).1
  have hb2 : w2.heap[b]? = some (.cells #[.pointer (some ⟨b, 0, none⟩), .slice ao n' cap] 33 (0, 0)) := by
    rw [hgrow.block b (by simp; omega) (fun e => HN.out e.symm), Below.heap_alloc w1 o b hlt]
    exact HB.out
  have d1 : w2.cell? ⟨b, 1, none⟩ = some (.slice ao n' cap) := by rw [Lib.cell_of_heap hb2]; rfl
  have f1 : w2.frozen? ⟨b, 1, none⟩ = false := Lib.frozen_of_heap hb2 1
  obtain ⟨ao2, n2, cap2, rfl⟩ : ∃ ao n' cap, v' = .slice ao n' cap := by
    rcases hown'.2 with ⟨hv, _⟩ | ⟨g, cap, cur, fz, hv, _⟩ <;> exact ⟨_, _, _, hv⟩
  rw [HR.out] at hown'
  have hput := Lib.BuilderAtF.put (T := 33) (e := 5) (Nat.le_refl b) hb2 (bs' := byteCells l ++ [.int .u8 (c.toNat : Int)]) (by simpa using hown') (by decide)
  have q1 : (w2.setCell ⟨b, 1, none⟩ (.slice ao2 n2 cap2)).cell? ⟨b, 1, none⟩ = some (.slice ao2 n2 cap2) := by
    obtain ⟨_, v3, hb3, _, _⟩ := hput
    have e3 : (w2.setCell ⟨b, 1, none⟩ (.slice ao2 n2 cap2)).heap[b]? = some (.cells #[.pointer (some ⟨b, 0, none⟩), .slice ao2 n2 cap2] 33 (0, 0)) := by
      simp [World.setCell, Array.getElem?_modify, hb2]
    rw [Lib.cell_of_heap e3]; rfl
  have H2 := Lib.hid hput; have HO2 := Lib.hid hown'; have HG := Lib.hid hgrow
  clear hb2 hown' hgrow c1 hput
  go_wp2_with fail
  go_ret2
  refine ⟨⟨_, rfl⟩, Or.inr ?_, ((HK.out.low.alloc (Nat.le_of_lt hlt) o).grown HG.out (by simp; omega) (fun k hk => (HO.out.lt k hk).1)).setCell (p := ⟨b, 1, none⟩) (Nat.le_refl _) _, ((HK.out.oth.alloc o).grown HG.out (fun g hg => ?_)).setCell ⟨b, 1, none⟩ rfl _, ?_⟩
  · have e2 : byteCells (l ++ [c]) = byteCells l ++ [.int .u8 (c.toNat : Int)] := by rw [bytes_app]; rfl
    rw [e2]
    exact H2.out
  · exact ownsRowF_kind (World.ownsRowF.alloc HO.out o) g hg
  · have a1 := HK.out.le; have a2 := HG.out.size
    simp at a2
    simp [World.setCell]
    omega
end Go.Proofs.YtnngnfajmncjpaaGreatDoor.Bld
