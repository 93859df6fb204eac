/- DERIVED. TxRSh16, TxRSh17, TxRSh19, TxRSh20 in one text. By an AI agent. -/
import Derived.Test.YtnngnfajmncjpaaGreatDoorZ08
import Derived.Test.YtnngnfajmncjpaaGreatDoorZ04
import Derived.Deep.RegionWith
/- DERIVED. The contract of the reference's Show at the sort 16. By an AI agent; written by gen-txrsh.py. -/
namespace Go.Proofs.YtnngnfajmncjpaaGreatDoor.TxR
open Go.ChangeShapes Go.WideShapes Go.ChangeAt Go.RowKit Go.Lib Tx
set_option linter.unusedVariables false
set_option linter.unusedSimpArgs false
theorem fin_str16 {x : ByteArray} {l : Txt} {w w' : World} {B : Nat} (h : x = ⟨l.toArray⟩) (hb : Below B w w') :
    Ending.returned (.tuple #[.string x, .bool true]) = .returned (.tuple #[str l, .bool true]) ∧ Below B w w' := ⟨by rw [h], hb⟩
set_option maxRecDepth 100000 in
set_option maxHeartbeats 400000000 in
theorem show16 (d i : Int) (w : World) (hd : 0 ≤ d ∧ d ≤ 13) (hi : -1024 ≤ i ∧ i ≤ 1023) (hc : ∀ W, Calls Tryz.prog 45 #[ThRef.ins 16 d 0 0 i] W fun e w' => e = .returned (.bool true) ∧ Below W.heap.size W w') :
    Calls Tryz.prog 26 #[.agg #[.int .i64 16, .int .i64 d, .int .i64 0, .int .i64 0, .int .i64 i]] w fun e w' => e = .returned (.tuple #[str (showL 16 ⟨d, 0, 0, i⟩), .bool true]) ∧ Below w.heap.size w w' := by
  have hs : showL 16 ⟨d, 0, 0, i⟩ = [108, 100, 114, 32] ++ (114 :: itoa d) ++ [44, 32] ++ [91, 112, 99, 44, 32] ++ (35 :: itoa (4 * i)) ++ [93] := by
    simp [showL, shpN, shp, Tx.wr, plc, Pl.show, Nm.get]
  rw [hs]
  have r0 := fun W => reg d (by omega) (by omega) W
  have l0 := itoa_len d (by omega) (by omega)
  have r1 := fun W => imm (4 * i) (by omega) (by omega) W
  have l1 := itoa_len (4 * i) (by omega) (by omega)
  have hm1 : IntKind.i64.wrap (4 * i) = (4 * i) := IntWalk.i64_in _ (by omega)
  generalize itoa d = L0 at *
  generalize itoa (4 * i) = L1 at *
  have HC := Lib.hid hc; have R0 := Lib.hid r0; have R1 := Lib.hid r1
  clear hc r0 r1 hs
  go_enter Tryz.func26, Tryz.ntmps26
  go_wp2_with fail
  refine (HC.out _).mono ?_
  rintro e w1 ⟨rfl, hb1⟩
  have hq : ∀ j, w1.cell? ⟨w.heap.size, j, none⟩ = (#[.int .i64 16, .int .i64 d, .int .i64 0, .int .i64 0, .int .i64 i] : Array Value)[j]? := fun j => (hb1.cell (p := ⟨w.heap.size, j, none⟩) (by simp)).trans (World.cell?_alloc_at _ _ _ _ rfl)
  have q0 := hq 0; have q1 := hq 1; have q2 := hq 2; have q3 := hq 3; have q4 := hq 4
  have hz : w.heap.size < w1.heap.size := by have := hb1.size; simp at this; omega
  have HB := Lib.hid (((Below.refl _ _).alloc (Nat.le_refl _) _).trans (hb1.mono (by simp)) : Below w.heap.size w w1)
  clear hb1 hq
  simp only [List.getElem?_toArray, List.getElem?_cons_zero, List.getElem?_cons_succ] at q0 q1 q2 q3 q4
  go_wp2_with fail
  refine (R0.out _).mono ?_; rintro e w' ⟨rfl, rfl⟩
  go_wp2_with fail
  refine (R1.out _).mono ?_; rintro e w' ⟨rfl, rfl⟩
  go_wp2_with fail
  go_ret2
  refine fin_str16 ?_ ?_
  · first | rfl | (simp only [str_app] <;> rfl)
  · exact HB.out
end Go.Proofs.YtnngnfajmncjpaaGreatDoor.TxR
/- DERIVED. The contract of the reference's Show at the sort 17. By an AI agent; written by gen-txrsh.py. -/
namespace Go.Proofs.YtnngnfajmncjpaaGreatDoor.TxR
open Go.ChangeShapes Go.WideShapes Go.ChangeAt Go.RowKit Go.Lib Tx
set_option linter.unusedVariables false
set_option linter.unusedSimpArgs false
theorem fin_str17 {x : ByteArray} {l : Txt} {w w' : World} {B : Nat} (h : x = ⟨l.toArray⟩) (hb : Below B w w') :
    Ending.returned (.tuple #[.string x, .bool true]) = .returned (.tuple #[str l, .bool true]) ∧ Below B w w' := ⟨by rw [h], hb⟩
set_option maxRecDepth 100000 in
set_option maxHeartbeats 400000000 in
theorem show17 (i : Int) (w : World) (hi : -1024 ≤ i ∧ i ≤ 1023) (hc : ∀ W, Calls Tryz.prog 45 #[ThRef.ins 17 0 0 0 i] W fun e w' => e = .returned (.bool true) ∧ Below W.heap.size W w') :
    Calls Tryz.prog 26 #[.agg #[.int .i64 17, .int .i64 0, .int .i64 0, .int .i64 0, .int .i64 i]] w fun e w' => e = .returned (.tuple #[str (showL 17 ⟨0, 0, 0, i⟩), .bool true]) ∧ Below w.heap.size w w' := by
  have hs : showL 17 ⟨0, 0, 0, i⟩ = [98, 32] ++ (35 :: itoa (2 * i)) := by
    simp [showL, shpN, shp, Tx.wr, plc, Pl.show, Nm.get]
  rw [hs]
  have r0 := fun W => reg 0 (by omega) (by omega) W
  have l0 := itoa_len 0 (by omega) (by omega)
  have r1 := fun W => imm (2 * i) (by omega) (by omega) W
  have l1 := itoa_len (2 * i) (by omega) (by omega)
  have hm1 : IntKind.i64.wrap (2 * i) = (2 * i) := IntWalk.i64_in _ (by omega)
  generalize itoa 0 = L0 at *
  generalize itoa (2 * i) = L1 at *
  have HC := Lib.hid hc; have R0 := Lib.hid r0; have R1 := Lib.hid r1
  clear hc r0 r1 hs
  go_enter Tryz.func26, Tryz.ntmps26
  go_wp2_with fail
  refine (HC.out _).mono ?_
  rintro e w1 ⟨rfl, hb1⟩
  have hq : ∀ j, w1.cell? ⟨w.heap.size, j, none⟩ = (#[.int .i64 17, .int .i64 0, .int .i64 0, .int .i64 0, .int .i64 i] : Array Value)[j]? := fun j => (hb1.cell (p := ⟨w.heap.size, j, none⟩) (by simp)).trans (World.cell?_alloc_at _ _ _ _ rfl)
  have q0 := hq 0; have q1 := hq 1; have q2 := hq 2; have q3 := hq 3; have q4 := hq 4
  have hz : w.heap.size < w1.heap.size := by have := hb1.size; simp at this; omega
  have HB := Lib.hid (((Below.refl _ _).alloc (Nat.le_refl _) _).trans (hb1.mono (by simp)) : Below w.heap.size w w1)
  clear hb1 hq
  simp only [List.getElem?_toArray, List.getElem?_cons_zero, List.getElem?_cons_succ] at q0 q1 q2 q3 q4
  go_wp2_with fail
  refine (R0.out _).mono ?_; rintro e w' ⟨rfl, rfl⟩
  go_wp2_with fail
  refine (R1.out _).mono ?_; rintro e w' ⟨rfl, rfl⟩
  go_wp2_with fail
  go_ret2
  refine fin_str17 ?_ ?_
  · simp only [str_app]; rfl
  · exact HB.out
end Go.Proofs.YtnngnfajmncjpaaGreatDoor.TxR
/- DERIVED. The contract of the reference's Show at the sort 19. By an AI agent; written by gen-txrsh.py. -/
namespace Go.Proofs.YtnngnfajmncjpaaGreatDoor.TxR
open Go.ChangeShapes Go.WideShapes Go.ChangeAt Go.RowKit Go.Lib Tx
set_option linter.unusedVariables false
set_option linter.unusedSimpArgs false
theorem fin_str19 {x : ByteArray} {l : Txt} {w w' : World} {B : Nat} (h : x = ⟨l.toArray⟩) (hb : Below B w w') :
    Ending.returned (.tuple #[.string x, .bool true]) = .returned (.tuple #[str l, .bool true]) ∧ Below B w w' := ⟨by rw [h], hb⟩
set_option maxRecDepth 100000 in
set_option maxHeartbeats 400000000 in
theorem show19 (w : World)  (hc : ∀ W, Calls Tryz.prog 45 #[ThRef.ins 19 0 0 0 0] W fun e w' => e = .returned (.bool true) ∧ Below W.heap.size W w') :
    Calls Tryz.prog 26 #[.agg #[.int .i64 19, .int .i64 0, .int .i64 0, .int .i64 0, .int .i64 0]] w fun e w' => e = .returned (.tuple #[str (showL 19 ⟨0, 0, 0, 0⟩), .bool true]) ∧ Below w.heap.size w w' := by
  have hs : showL 19 ⟨0, 0, 0, 0⟩ = [110, 111, 112] := by
    simp [showL, shpN, shp, Tx.wr, plc, Pl.show, Nm.get]
  rw [hs]
  have r0 := fun W => reg 0 (by omega) (by omega) W
  have l0 := itoa_len 0 (by omega) (by omega)
  generalize itoa 0 = L0 at *
  have HC := Lib.hid hc; have R0 := Lib.hid r0
  clear hc r0 hs
  go_enter Tryz.func26, Tryz.ntmps26
  go_wp2_with fail
  refine (HC.out _).mono ?_
  rintro e w1 ⟨rfl, hb1⟩
  have hq : ∀ j, w1.cell? ⟨w.heap.size, j, none⟩ = (#[.int .i64 19, .int .i64 0, .int .i64 0, .int .i64 0, .int .i64 0] : Array Value)[j]? := fun j => (hb1.cell (p := ⟨w.heap.size, j, none⟩) (by simp)).trans (World.cell?_alloc_at _ _ _ _ rfl)
  have q0 := hq 0; have q1 := hq 1; have q2 := hq 2; have q3 := hq 3; have q4 := hq 4
  have hz : w.heap.size < w1.heap.size := by have := hb1.size; simp at this; omega
  have HB := Lib.hid (((Below.refl _ _).alloc (Nat.le_refl _) _).trans (hb1.mono (by simp)) : Below w.heap.size w w1)
  clear hb1 hq
  simp only [List.getElem?_toArray, List.getElem?_cons_zero, List.getElem?_cons_succ] at q0 q1 q2 q3 q4
  go_wp2_with fail
  refine (R0.out _).mono ?_; rintro e w' ⟨rfl, rfl⟩
  go_wp2_with fail
  go_ret2
  refine fin_str19 ?_ ?_
  · first | rfl | (simp only [str_app] <;> rfl)
  · exact HB.out
end Go.Proofs.YtnngnfajmncjpaaGreatDoor.TxR
/- DERIVED. The contract of the reference's Show at the sort 20. By an AI agent; written by gen-txrsh.py. -/
namespace Go.Proofs.YtnngnfajmncjpaaGreatDoor.TxR
open Go.ChangeShapes Go.WideShapes Go.ChangeAt Go.RowKit Go.Lib Tx
set_option linter.unusedVariables false
set_option linter.unusedSimpArgs false
theorem fin_str20 {x : ByteArray} {l : Txt} {w w' : World} {B : Nat} (h : x = ⟨l.toArray⟩) (hb : Below B w w') :
    Ending.returned (.tuple #[.string x, .bool true]) = .returned (.tuple #[str l, .bool true]) ∧ Below B w w' := ⟨by rw [h], hb⟩
set_option maxRecDepth 100000 in
set_option maxHeartbeats 400000000 in
theorem show20 (i : Int) (w : World) (hi : -1024 ≤ i ∧ i ≤ 1023) (hc : ∀ W, Calls Tryz.prog 45 #[ThRef.ins 20 0 0 0 i] W fun e w' => e = .returned (.bool true) ∧ Below W.heap.size W w') :
    Calls Tryz.prog 26 #[.agg #[.int .i64 20, .int .i64 0, .int .i64 0, .int .i64 0, .int .i64 i]] w fun e w' => e = .returned (.tuple #[str (showL 20 ⟨0, 0, 0, i⟩), .bool true]) ∧ Below w.heap.size w w' := by
  have hs : showL 20 ⟨0, 0, 0, i⟩ = [98, 107, 112, 116, 32] ++ (35 :: itoa i) := by
    simp [showL, shpN, shp, Tx.wr, plc, Pl.show, Nm.get]
  rw [hs]
  have r0 := fun W => reg 0 (by omega) (by omega) W
  have l0 := itoa_len 0 (by omega) (by omega)
  have r1 := fun W => imm i (by omega) (by omega) W
  have l1 := itoa_len i (by omega) (by omega)
  generalize itoa 0 = L0 at *
  generalize itoa i = L1 at *
  have HC := Lib.hid hc; have R0 := Lib.hid r0; have R1 := Lib.hid r1
  clear hc r0 r1 hs
  go_enter Tryz.func26, Tryz.ntmps26
  go_wp2_with fail
  refine (HC.out _).mono ?_
  rintro e w1 ⟨rfl, hb1⟩
  have hq : ∀ j, w1.cell? ⟨w.heap.size, j, none⟩ = (#[.int .i64 20, .int .i64 0, .int .i64 0, .int .i64 0, .int .i64 i] : Array Value)[j]? := fun j => (hb1.cell (p := ⟨w.heap.size, j, none⟩) (by simp)).trans (World.cell?_alloc_at _ _ _ _ rfl)
  have q0 := hq 0; have q1 := hq 1; have q2 := hq 2; have q3 := hq 3; have q4 := hq 4
  have hz : w.heap.size < w1.heap.size := by have := hb1.size; simp at this; omega
  have HB := Lib.hid (((Below.refl _ _).alloc (Nat.le_refl _) _).trans (hb1.mono (by simp)) : Below w.heap.size w w1)
  clear hb1 hq
  simp only [List.getElem?_toArray, List.getElem?_cons_zero, List.getElem?_cons_succ] at q0 q1 q2 q3 q4
  go_wp2_with fail
  refine (R0.out _).mono ?_; rintro e w' ⟨rfl, rfl⟩
  go_wp2_with fail
  refine (R1.out _).mono ?_; rintro e w' ⟨rfl, rfl⟩
  go_wp2_with fail
  go_ret2
  refine fin_str20 ?_ ?_
  · simp only [str_app]; rfl
  · exact HB.out
end Go.Proofs.YtnngnfajmncjpaaGreatDoor.TxR
