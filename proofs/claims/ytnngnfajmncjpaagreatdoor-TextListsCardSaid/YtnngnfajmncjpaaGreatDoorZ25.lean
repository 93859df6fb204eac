/- DERIVED. TxWb in one text. By an AI agent. -/
import Derived.Test.YtnngnfajmncjpaaGreatDoorZ14
/- DERIVED. The builder's WriteByte. By an AI agent. -/
namespace Go.Proofs.YtnngnfajmncjpaaGreatDoor.Bld
open Go.ChangeShapes Go.WideShapes Go.ChangeAt Go.RowKit Go.Lib
set_option linter.unusedVariables false
set_option maxHeartbeats 2000000 in
set_option maxRecDepth 100000 in
theorem wbyte (b : Nat) (l : List UInt8) (c : UInt8) (w : World) (h : IsB b l w) (hlen : l.length ≤ 1000000000) :
    Calls Tryz.prog 11 #[.pointer (some ⟨b, 0, none⟩), .int .u8 (c.toNat : Int)] w fun e w' => e = .returned .nilIface ∧ IsB b (l ++ [c]) w' ∧ Kept b w w' := by
  obtain ⟨i0, hi, hz0, hz1, hz2⟩ := info_parts inB
  have hbw := h.lt
  have hck := check b _ w h
  have HC := Lib.hid hck
  clear hck h
  go_enter Tryz.func11, Tryz.ntmps11
  go_wp2_with fail
  refine HC.out.mono ?_
  rintro e w1 ⟨rfl, h1, k1⟩
  obtain ⟨hB, v, hbk, hown, hne⟩ := h1
  obtain ⟨ao, n', cap, rfl⟩ : ∃ ao n' cap, v = .slice ao n' cap := by
    rcases hown.2 with ⟨hv, _⟩ | ⟨g, cap, cur, fz, hv, _⟩ <;> exact ⟨_, _, _, hv⟩
  have c1 : w1.cell? ⟨b, 1, none⟩ = some (.slice ao n' cap) := by rw [Lib.cell_of_heap hbk]; rfl
  have hlt : b < w1.heap.size := (Array.getElem?_eq_some_iff.1 hbk).1
  have G1 := Lib.hid (show (byteCells l).length + 1 ≤ maxLen by rw [byteCells_length]; unfold maxLen; omega)
  have G2 := Lib.hid (show ((byteCells l).length + 1) * 1 ≤ 140737488355328 by rw [byteCells_length]; omega)
  have HO := Lib.hid hown; have HK := Lib.hid k1; have HB := Lib.hid hbk; have HN := Lib.hid hne
  clear hown k1 hbk hne
  go_wp2_with (at_builtin; refine wpList_append_ownF _ rfl _ _ 31 rfl b 5 i0 (.int .u8 0) 1 1 Tryz.underlying31 hi hz0 hz1 hz2 rfl (by decide) _ _ _ rfl (HO.out.alloc _) ⟨w1.heap.size, 0, none⟩ 1 1 [.int .u8 (c.toNat : Int)] rfl rfl ?c1 ?c2 G1.out G2.out ?c5 ?_)
  case c1 =>
    intro j u hj
    match j, hj with
    | 0, hj => simp at hj; subst hj; simp [Addr.add]
  case c2 => intro u hu; simp at hu; subst hu; rfl
  case c5 => simp; omega
  intro v' w2 hown' hgrow _
  clear c1
  have hb2 : w2.heap[b]? = some (.cells #[.pointer (some ⟨b, 0, none⟩), .slice ao n' cap] 33 (0, 0)) := by
    rw [hgrow.block b (by simp; omega) (fun e => HN.out e.symm), Below.heap_alloc w1 _ b hlt]
    exact HB.out
  have d1 : w2.cell? ⟨b, 1, none⟩ = some (.slice ao n' cap) := by rw [Lib.cell_of_heap hb2]; rfl
  have f1 : w2.frozen? ⟨b, 1, none⟩ = false := Lib.frozen_of_heap hb2 1
  obtain ⟨ao2, n2, cap2, rfl⟩ : ∃ ao n' cap, v' = .slice ao n' cap := by
    rcases hown'.2 with ⟨hv, _⟩ | ⟨g, cap, cur, fz, hv, _⟩ <;> exact ⟨_, _, _, hv⟩
  have H2 := Lib.hid hb2; have HO2 := Lib.hid hown'; have HG := Lib.hid hgrow
  clear hb2 hown' hgrow
  go_wp2_with fail
  go_ret
  refine ⟨rfl, Or.inr ?_, ((HK.out.low.alloc (Nat.le_of_lt hlt) _).grown HG.out (by simp; omega) (fun k hk => (HO.out.lt k hk).1)).setCell (p := ⟨b, 1, none⟩) (Nat.le_refl _) _, ((HK.out.oth.alloc _).grown HG.out (fun g hg => ?_)).setCell ⟨b, 1, none⟩ rfl _, ?_⟩
  · have e2 : byteCells (l ++ [c]) = byteCells l ++ [.int .u8 (c.toNat : Int)] := by rw [bytes_app]; rfl
    rw [e2]
    exact Lib.BuilderAtF.put (Nat.le_refl _) H2.out (by rw [List.length_append]; exact HO2.out) (by decide)
  · exact ownsRowF_kind (World.ownsRowF.alloc HO.out _) g hg
  · have a1 := HK.out.le; have a2 := HG.out.size
    simp at a2
    simp [World.setCell]
    omega
end Go.Proofs.YtnngnfajmncjpaaGreatDoor.Bld
