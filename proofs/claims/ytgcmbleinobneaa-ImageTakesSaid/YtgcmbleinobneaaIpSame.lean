/- DERIVED. Contracts of the reference's Halves, Cells, Same over equal data. By an AI agent. -/
import Derived.Test.YtgcmbleinobneaaIpLive
import Derived.Test.YtgcmbleinobneaaUpd
import Derived.BigQuiet
namespace Go.Proofs.Ytgcmbleinobneaa.Ip
open Go.ChangeShapes Go.WideShapes Go.ChangeAt Go.RowKit Args ImRef
set_option linter.unusedVariables false
theorem below_drewN {B : Nat} {w w' : World} (h : Below B w w') (n : Nat) : Below B w (w'.drewN n) := ⟨h.os, h.tape, h.output, h.size, h.block⟩
set_option maxHeartbeats 2000000 in
theorem halvesEq (A B : Option Addr) (c d : Nat) (zs : List Int) (w : World) (hA : Lies w A (zs.map (.int .u16))) (hB : Lies w B (zs.map (.int .u16))) (hl : zs.length ≤ 140737488351232) :
    Calls Try.prog 15 #[.slice A zs.length c, .slice B zs.length d] w fun e w' => e = .returned (.bool true) ∧ Below w.heap.size w w' := by
  have HA := Lib.hid hA; have HB := Lib.hid hB
  clear hA hB
  go_enter Try.func15, Try.ntmps15
  go_wp2_with fail
  go_loopw [5] (fun vi wr => ∃ k : Nat, k ≤ zs.length ∧ vi = .int .i64 k ∧ Hid (Below w.heap.size w wr)) (fun vi _ => zs.length - (intOf vi).toNat)
  case atStart => exact ⟨0, by omega, rfl, Lib.hid (Below.refl _ _)⟩
  case round =>
    obtain ⟨k, hk, rfl, HH⟩ := hrel
    by_cases hlt : k < zs.length
    · have f1 : (zs.map (Value.int .u16))[k]? = some (.int .u16 (zs[k]'hlt)) := by simp [List.getElem?_eq_getElem hlt]
      generalize zs[k]'hlt = z at f1
      obtain ⟨b, o, rfl, _, hc⟩ := (HA.out.below HH.out).at_ f1
      obtain ⟨b', o', rfl, _, hc'⟩ := (HB.out.below HH.out).at_ f1
      have e1 := hc _ _ f1
      have e2 := hc' _ _ f1
      clear hc hc' f1
      go_wp2_with fail
      go_quiet (fail)
      go_wp2_with fail
      go_roundw
      case rel => exact ⟨k + 1, by omega, by go_num, Lib.hid (below_drewN HH.out nq)⟩
      case measure => simp [intOf]; omega
    · go_wp2_with fail
      go_ret
      exact ⟨rfl, HH.out⟩
set_option maxHeartbeats 2000000 in
theorem cellsEq (A B : Option Addr) (c d : Nat) (l : List TI) (w : World) (hA : Cs w A l) (hB : Cs w B l) :
    Calls Try.prog 32 #[.slice A l.length c, .slice B l.length d] w fun e w' => e = .returned (.bool true) ∧ Below w.heap.size w w' := by
  have hl := hA.2.1
  have HA := Lib.hid hA; have HB := Lib.hid hB
  clear hA hB
  go_enter Try.func32, Try.ntmps32
  go_wp2_with fail
  go_loopw [5] (fun vi wr => ∃ k : Nat, k ≤ l.length ∧ vi = .int .i64 k ∧ Hid (Below w.heap.size w wr)) (fun vi _ => l.length - (intOf vi).toNat)
  case atStart => exact ⟨0, by omega, rfl, Lib.hid (Below.refl _ _)⟩
  case round =>
    obtain ⟨k, hk, rfl, HH⟩ := hrel
    by_cases hlt : k < l.length
    · have hc : l[k]? = some (l[k]'hlt) := List.getElem?_eq_getElem hlt
      generalize l[k]'hlt = c at hc
      obtain ⟨f1, f2⟩ := flat2 l k c hc
      obtain ⟨b, o, rfl, _, hc1⟩ := (HA.out.1.below HH.out).at_ f1
      obtain ⟨b', o', rfl, _, hc2⟩ := (HB.out.1.below HH.out).at_ f1
      have e1 := hc1 _ _ f1
      have e2 : wr.cell? ⟨b, o + k * 2 + 1, none⟩ = some (.int .i64 c.n) := by rw [Nat.add_assoc]; exact hc1 _ _ f2
      have e3 := hc2 _ _ f1
      have e4 : wr.cell? ⟨b', o' + k * 2 + 1, none⟩ = some (.int .i64 c.n) := by rw [Nat.add_assoc]; exact hc2 _ _ f2
      clear hc hc1 hc2 f1 f2
      go_wp2_with fail
      go_quiet (fail)
      go_wp2_with fail
      go_roundw
      case rel => exact ⟨k + 1, by omega, by go_num, Lib.hid (below_drewN HH.out nq)⟩
      case measure => simp [intOf]; omega
    · go_wp2_with fail
      go_ret
      exact ⟨rfl, HH.out⟩
set_option maxHeartbeats 2000000 in
theorem same (m : Man) (A4 A5 A6 B4 B5 B6 : Option Addr) (c4 c5 c6 d4 d5 d6 : Nat) (w : World) (h4 : Cs w A4 m.se) (h5 : Cs w A5 m.pu) (h6 : Cs w A6 m.ou) (k4 : Cs w B4 m.se) (k5 : Cs w B5 m.pu) (k6 : Cs w B6 m.ou) :
    Calls Try.prog 16 #[man m A4 A5 A6 c4 c5 c6, man m B4 B5 B6 d4 d5 d6] w fun e w' => e = .returned (.bool true) ∧ Below w.heap.size w w' := by
  have hb : Below w.heap.size w ((w.alloc (.cells (manV m A4 A5 A6 c4 c5 c6) 25)).alloc (.cells (manV m B4 B5 B6 d4 d5 d6) 25)) := ((Below.refl _ _).alloc (Nat.le_refl _) _).alloc (by simp) _
  have hs : ((w.alloc (.cells (manV m A4 A5 A6 c4 c5 c6) 25)).alloc (.cells (manV m B4 B5 B6 d4 d5 d6) 25)).heap.size = w.heap.size + 2 := by simp
  have b1 := (Blk.new w 25 (manV m A4 A5 A6 c4 c5 c6)).alloc (.cells (manV m B4 B5 B6 d4 d5 d6) 25)
  have b2 := Blk.new (w.alloc (.cells (manV m A4 A5 A6 c4 c5 c6) 25)) 25 (manV m B4 B5 B6 d4 d5 d6)
  rw [World.size_alloc] at b2
  have g1 := cellsEq A4 B4 c4 d4 m.se _ (h4.below hb) (k4.below hb)
  have HB := Lib.hid hb; have HB1 := Lib.hid b1; have HB2 := Lib.hid b2; have HS := Lib.hid hs
  have H5 := Lib.hid h5; have H6 := Lib.hid h6; have K5 := Lib.hid k5; have K6 := Lib.hid k6
  have G1 := Lib.hid g1
  clear hb b1 b2 hs h4 h5 h6 k4 k5 k6 g1
  go_enter Try.func16, Try.ntmps16
  go_wp2_with fail
  refine G1.out.mono ?_
  rintro e w1 ⟨rfl, h1⟩
  have q1 := HB1.out.below h1 (by rw [HS.out]; omega)
  have q2 := HB2.out.below h1 (by rw [HS.out]; omega)
  have x5 : w1.cell? ⟨w.heap.size, 5, none⟩ = some (.slice A5 m.pu.length c5) := q1.cell 5
  have y5 : w1.cell? ⟨w.heap.size + 1, 5, none⟩ = some (.slice B5 m.pu.length d5) := q2.cell 5
  have hz := h1.size
  rw [HS.out] at hz
  have hw1 : Below w.heap.size w w1 := HB.out.trans (h1.mono (by rw [HS.out]; omega))
  have HW1 := Lib.hid hw1; have HQ1 := Lib.hid q1; have HQ2 := Lib.hid q2
  have G2 := Lib.hid (cellsEq A5 B5 c5 d5 m.pu _ (H5.out.below hw1) (K5.out.below hw1))
  clear h1 q1 q2 hw1
  go_wp2_with fail
  refine G2.out.mono ?_
  rintro e w2 ⟨rfl, h2⟩
  have q1 := HQ1.out.below h2 (by omega)
  have q2 := HQ2.out.below h2 (by omega)
  have x6 : w2.cell? ⟨w.heap.size, 6, none⟩ = some (.slice A6 m.ou.length c6) := q1.cell 6
  have y6 : w2.cell? ⟨w.heap.size + 1, 6, none⟩ = some (.slice B6 m.ou.length d6) := q2.cell 6
  have hw2 : Below w.heap.size w w2 := HW1.out.trans (h2.mono (by omega))
  have HW2 := Lib.hid hw2
  have hz2 := h2.size
  have G3 := Lib.hid (cellsEq A6 B6 c6 d6 m.ou _ (H6.out.below hw2) (K6.out.below hw2))
  clear h2 q1 q2 hw2
  go_wp2_with fail
  refine G3.out.mono ?_
  rintro e w3 ⟨rfl, h3⟩
  have HW3 := Lib.hid (HW2.out.trans (h3.mono (by omega)))
  clear h3
  go_wp2_with fail
  go_ret
  exact ⟨rfl, HW3.out⟩
end Go.Proofs.Ytgcmbleinobneaa.Ip
