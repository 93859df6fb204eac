/- DERIVED. TxRSh0, TxRSh1, TxRSh2, TxRSh3 in one text. By an AI agent. -/
import Derived.Test.YtnngnfajmncjpaaGreatDoorZ08
import Derived.Test.YtnngnfajmncjpaaGreatDoorZ04
import Derived.Deep.RegionWith
/- DERIVED. The contract of the reference's Show at the sort 0. By an AI agent; written by gen-txrsh.py. -/
namespace Go.Proofs.YtnngnfajmncjpaaGreatDoor.TxR
open Go.ChangeShapes Go.WideShapes Go.ChangeAt Go.RowKit Go.Lib Tx
set_option linter.unusedVariables false
set_option linter.unusedSimpArgs false
theorem fin_str0 {x : ByteArray} {l : Txt} {w w' : World} {B : Nat} (h : x = ⟨l.toArray⟩) (hb : Below B w w') :
    Ending.returned (.tuple #[.string x, .bool true]) = .returned (.tuple #[str l, .bool true]) ∧ Below B w w' := ⟨by rw [h], hb⟩
set_option maxRecDepth 100000 in
set_option maxHeartbeats 400000000 in
theorem show0 (d i : Int) (w : World) (hd : 0 ≤ d ∧ d ≤ 13) (hi : -1024 ≤ i ∧ i ≤ 1023) (hc : ∀ W, Calls Tryz.prog 45 #[ThRef.ins 0 d 0 0 i] W fun e w' => e = .returned (.bool true) ∧ Below W.heap.size W w') :
    Calls Tryz.prog 26 #[.agg #[.int .i64 0, .int .i64 d, .int .i64 0, .int .i64 0, .int .i64 i]] w fun e w' => e = .returned (.tuple #[str (showL 0 ⟨d, 0, 0, i⟩), .bool true]) ∧ Below w.heap.size w w' := by
  have hs : showL 0 ⟨d, 0, 0, i⟩ = [109, 111, 118, 115, 32] ++ (114 :: itoa d) ++ [44, 32] ++ (35 :: itoa i) := by
    simp [showL, shpN, shp, Tx.wr, plc, Pl.show, Nm.get]
  rw [hs]
  have r0 := fun W => reg d (by omega) (by omega) W
  have l0 := itoa_len d (by omega) (by omega)
  have r1 := fun W => imm i (by omega) (by omega) W
  have l1 := itoa_len i (by omega) (by omega)
  generalize itoa d = L0 at *
  generalize itoa i = L1 at *
  have n0 : (9223372036854775807 < L0.length + 1 + 2) = False := eq_false (by omega)
  have n1 : (9223372036854775807 < 5 + (L0.length + 1 + 2)) = False := eq_false (by omega)
  have n2 : (9223372036854775807 < 5 + (L0.length + 1 + 2) + (L1.length + 1)) = False := eq_false (by omega)
  have HC := Lib.hid hc; have R0 := Lib.hid r0; have R1 := Lib.hid r1
  clear hc r0 r1 hs
  go_enter Tryz.func26, Tryz.ntmps26
  go_wp2_with fail
  refine (HC.out _).mono ?_
  rintro e w1 ⟨rfl, hb1⟩
  have hq : ∀ j, w1.cell? ⟨w.heap.size, j, none⟩ = (#[.int .i64 0, .int .i64 d, .int .i64 0, .int .i64 0, .int .i64 i] : Array Value)[j]? := fun j => (hb1.cell (p := ⟨w.heap.size, j, none⟩) (by simp)).trans (World.cell?_alloc_at _ _ _ _ rfl)
  have q0 := hq 0; have q1 := hq 1; have q2 := hq 2; have q3 := hq 3; have q4 := hq 4
  have hz : w.heap.size < w1.heap.size := by have := hb1.size; simp at this; omega
  have HB := Lib.hid (((Below.refl _ _).alloc (Nat.le_refl _) _).trans (hb1.mono (by simp)) : Below w.heap.size w w1)
  clear hb1 hq
  simp only [List.getElem?_toArray, List.getElem?_cons_zero, List.getElem?_cons_succ] at q0 q1 q2 q3 q4
  go_wp2_with fail
  refine (R0.out _).mono ?_; rintro e w' ⟨rfl, rfl⟩
  go_wp2_with fail
  go_region_with
    ((first
      | (go_at_call 47; refine (R1.out _).mono ?_; rintro e w' ⟨rfl, rfl⟩)))
  all_goals
    go_wp2_with fail
    go_ret2
    refine fin_str0 ?_ ?_
    · first | rfl | (simp only [str_app] <;> rfl)
    · repeat' (first | exact HB.out | exact Nat.le_refl _ | refine Below.drew ?_ | refine Below.alloc ?_ (by have := HB.out.size; simp; omega) _)
end Go.Proofs.YtnngnfajmncjpaaGreatDoor.TxR
/- DERIVED. The contract of the reference's Show at the sort 1. By an AI agent; written by gen-txrsh.py. -/
namespace Go.Proofs.YtnngnfajmncjpaaGreatDoor.TxR
open Go.ChangeShapes Go.WideShapes Go.ChangeAt Go.RowKit Go.Lib Tx
set_option linter.unusedVariables false
set_option linter.unusedSimpArgs false
theorem fin_str1 {x : ByteArray} {l : Txt} {w w' : World} {B : Nat} (h : x = ⟨l.toArray⟩) (hb : Below B w w') :
    Ending.returned (.tuple #[.string x, .bool true]) = .returned (.tuple #[str l, .bool true]) ∧ Below B w w' := ⟨by rw [h], hb⟩
set_option maxRecDepth 100000 in
set_option maxHeartbeats 400000000 in
theorem show1 (d i : Int) (w : World) (hd : 0 ≤ d ∧ d ≤ 13) (hi : -1024 ≤ i ∧ i ≤ 1023) (hc : ∀ W, Calls Tryz.prog 45 #[ThRef.ins 1 d 0 0 i] W fun e w' => e = .returned (.bool true) ∧ Below W.heap.size W w') :
    Calls Tryz.prog 26 #[.agg #[.int .i64 1, .int .i64 d, .int .i64 0, .int .i64 0, .int .i64 i]] w fun e w' => e = .returned (.tuple #[str (showL 1 ⟨d, 0, 0, i⟩), .bool true]) ∧ Below w.heap.size w w' := by
  have hs : showL 1 ⟨d, 0, 0, i⟩ = [99, 109, 112, 32] ++ (114 :: itoa d) ++ [44, 32] ++ (35 :: itoa i) := by
    simp [showL, shpN, shp, Tx.wr, plc, Pl.show, Nm.get]
  rw [hs]
  have r0 := fun W => reg d (by omega) (by omega) W
  have l0 := itoa_len d (by omega) (by omega)
  have r1 := fun W => imm i (by omega) (by omega) W
  have l1 := itoa_len i (by omega) (by omega)
  generalize itoa d = L0 at *
  generalize itoa i = L1 at *
  have n0 : (9223372036854775807 < L0.length + 1 + 2) = False := eq_false (by omega)
  have n1 : (9223372036854775807 < 4 + (L0.length + 1 + 2)) = False := eq_false (by omega)
  have n2 : (9223372036854775807 < 4 + (L0.length + 1 + 2) + (L1.length + 1)) = False := eq_false (by omega)
  have HC := Lib.hid hc; have R0 := Lib.hid r0; have R1 := Lib.hid r1
  clear hc r0 r1 hs
  go_enter Tryz.func26, Tryz.ntmps26
  go_wp2_with fail
  refine (HC.out _).mono ?_
  rintro e w1 ⟨rfl, hb1⟩
  have hq : ∀ j, w1.cell? ⟨w.heap.size, j, none⟩ = (#[.int .i64 1, .int .i64 d, .int .i64 0, .int .i64 0, .int .i64 i] : Array Value)[j]? := fun j => (hb1.cell (p := ⟨w.heap.size, j, none⟩) (by simp)).trans (World.cell?_alloc_at _ _ _ _ rfl)
  have q0 := hq 0; have q1 := hq 1; have q2 := hq 2; have q3 := hq 3; have q4 := hq 4
  have hz : w.heap.size < w1.heap.size := by have := hb1.size; simp at this; omega
  have HB := Lib.hid (((Below.refl _ _).alloc (Nat.le_refl _) _).trans (hb1.mono (by simp)) : Below w.heap.size w w1)
  clear hb1 hq
  simp only [List.getElem?_toArray, List.getElem?_cons_zero, List.getElem?_cons_succ] at q0 q1 q2 q3 q4
  go_wp2_with fail
  refine (R0.out _).mono ?_; rintro e w' ⟨rfl, rfl⟩
  go_wp2_with fail
  go_region_with
    ((first
      | (go_at_call 47; refine (R1.out _).mono ?_; rintro e w' ⟨rfl, rfl⟩)))
  all_goals
    go_wp2_with fail
    go_ret2
    refine fin_str1 ?_ ?_
    · first | rfl | (simp only [str_app] <;> rfl)
    · repeat' (first | exact HB.out | exact Nat.le_refl _ | refine Below.drew ?_ | refine Below.alloc ?_ (by have := HB.out.size; simp; omega) _)
end Go.Proofs.YtnngnfajmncjpaaGreatDoor.TxR
/- DERIVED. The contract of the reference's Show at the sort 2. By an AI agent; written by gen-txrsh.py. -/
namespace Go.Proofs.YtnngnfajmncjpaaGreatDoor.TxR
open Go.ChangeShapes Go.WideShapes Go.ChangeAt Go.RowKit Go.Lib Tx
set_option linter.unusedVariables false
set_option linter.unusedSimpArgs false
theorem fin_str2 {x : ByteArray} {l : Txt} {w w' : World} {B : Nat} (h : x = ⟨l.toArray⟩) (hb : Below B w w') :
    Ending.returned (.tuple #[.string x, .bool true]) = .returned (.tuple #[str l, .bool true]) ∧ Below B w w' := ⟨by rw [h], hb⟩
set_option maxRecDepth 100000 in
set_option maxHeartbeats 400000000 in
theorem show2 (d i : Int) (w : World) (hd : 0 ≤ d ∧ d ≤ 13) (hi : -1024 ≤ i ∧ i ≤ 1023) (hc : ∀ W, Calls Tryz.prog 45 #[ThRef.ins 2 d 0 0 i] W fun e w' => e = .returned (.bool true) ∧ Below W.heap.size W w') :
    Calls Tryz.prog 26 #[.agg #[.int .i64 2, .int .i64 d, .int .i64 0, .int .i64 0, .int .i64 i]] w fun e w' => e = .returned (.tuple #[str (showL 2 ⟨d, 0, 0, i⟩), .bool true]) ∧ Below w.heap.size w w' := by
  have hs : showL 2 ⟨d, 0, 0, i⟩ = [97, 100, 100, 115, 32] ++ (114 :: itoa d) ++ [44, 32] ++ (35 :: itoa i) := by
    simp [showL, shpN, shp, Tx.wr, plc, Pl.show, Nm.get]
  rw [hs]
  have r0 := fun W => reg d (by omega) (by omega) W
  have l0 := itoa_len d (by omega) (by omega)
  have r1 := fun W => imm i (by omega) (by omega) W
  have l1 := itoa_len i (by omega) (by omega)
  generalize itoa d = L0 at *
  generalize itoa i = L1 at *
  have n0 : (9223372036854775807 < L0.length + 1 + 2) = False := eq_false (by omega)
  have n1 : (9223372036854775807 < 5 + (L0.length + 1 + 2)) = False := eq_false (by omega)
  have n2 : (9223372036854775807 < 5 + (L0.length + 1 + 2) + (L1.length + 1)) = False := eq_false (by omega)
  have HC := Lib.hid hc; have R0 := Lib.hid r0; have R1 := Lib.hid r1
  clear hc r0 r1 hs
  go_enter Tryz.func26, Tryz.ntmps26
  go_wp2_with fail
  refine (HC.out _).mono ?_
  rintro e w1 ⟨rfl, hb1⟩
  have hq : ∀ j, w1.cell? ⟨w.heap.size, j, none⟩ = (#[.int .i64 2, .int .i64 d, .int .i64 0, .int .i64 0, .int .i64 i] : Array Value)[j]? := fun j => (hb1.cell (p := ⟨w.heap.size, j, none⟩) (by simp)).trans (World.cell?_alloc_at _ _ _ _ rfl)
  have q0 := hq 0; have q1 := hq 1; have q2 := hq 2; have q3 := hq 3; have q4 := hq 4
  have hz : w.heap.size < w1.heap.size := by have := hb1.size; simp at this; omega
  have HB := Lib.hid (((Below.refl _ _).alloc (Nat.le_refl _) _).trans (hb1.mono (by simp)) : Below w.heap.size w w1)
  clear hb1 hq
  simp only [List.getElem?_toArray, List.getElem?_cons_zero, List.getElem?_cons_succ] at q0 q1 q2 q3 q4
  go_wp2_with fail
  refine (R0.out _).mono ?_; rintro e w' ⟨rfl, rfl⟩
  go_wp2_with fail
  go_region_with
    ((first
      | (go_at_call 47; refine (R1.out _).mono ?_; rintro e w' ⟨rfl, rfl⟩)))
  all_goals
    go_wp2_with fail
    go_ret2
    refine fin_str2 ?_ ?_
    · first | rfl | (simp only [str_app] <;> rfl)
    · repeat' (first | exact HB.out | exact Nat.le_refl _ | refine Below.drew ?_ | refine Below.alloc ?_ (by have := HB.out.size; simp; omega) _)
end Go.Proofs.YtnngnfajmncjpaaGreatDoor.TxR
/- DERIVED. The contract of the reference's Show at the sort 3. By an AI agent; written by gen-txrsh.py. -/
namespace Go.Proofs.YtnngnfajmncjpaaGreatDoor.TxR
open Go.ChangeShapes Go.WideShapes Go.ChangeAt Go.RowKit Go.Lib Tx
set_option linter.unusedVariables false
set_option linter.unusedSimpArgs false
theorem fin_str3 {x : ByteArray} {l : Txt} {w w' : World} {B : Nat} (h : x = ⟨l.toArray⟩) (hb : Below B w w') :
    Ending.returned (.tuple #[.string x, .bool true]) = .returned (.tuple #[str l, .bool true]) ∧ Below B w w' := ⟨by rw [h], hb⟩
set_option maxRecDepth 100000 in
set_option maxHeartbeats 400000000 in
theorem show3 (d i : Int) (w : World) (hd : 0 ≤ d ∧ d ≤ 13) (hi : -1024 ≤ i ∧ i ≤ 1023) (hc : ∀ W, Calls Tryz.prog 45 #[ThRef.ins 3 d 0 0 i] W fun e w' => e = .returned (.bool true) ∧ Below W.heap.size W w') :
    Calls Tryz.prog 26 #[.agg #[.int .i64 3, .int .i64 d, .int .i64 0, .int .i64 0, .int .i64 i]] w fun e w' => e = .returned (.tuple #[str (showL 3 ⟨d, 0, 0, i⟩), .bool true]) ∧ Below w.heap.size w w' := by
  have hs : showL 3 ⟨d, 0, 0, i⟩ = [115, 117, 98, 115, 32] ++ (114 :: itoa d) ++ [44, 32] ++ (35 :: itoa i) := by
    simp [showL, shpN, shp, Tx.wr, plc, Pl.show, Nm.get]
  rw [hs]
  have r0 := fun W => reg d (by omega) (by omega) W
  have l0 := itoa_len d (by omega) (by omega)
  have r1 := fun W => imm i (by omega) (by omega) W
  have l1 := itoa_len i (by omega) (by omega)
  generalize itoa d = L0 at *
  generalize itoa i = L1 at *
  have n0 : (9223372036854775807 < L0.length + 1 + 2) = False := eq_false (by omega)
  have n1 : (9223372036854775807 < 5 + (L0.length + 1 + 2)) = False := eq_false (by omega)
  have n2 : (9223372036854775807 < 5 + (L0.length + 1 + 2) + (L1.length + 1)) = False := eq_false (by omega)
  have HC := Lib.hid hc; have R0 := Lib.hid r0; have R1 := Lib.hid r1
  clear hc r0 r1 hs
  go_enter Tryz.func26, Tryz.ntmps26
  go_wp2_with fail
  refine (HC.out _).mono ?_
  rintro e w1 ⟨rfl, hb1⟩
  have hq : ∀ j, w1.cell? ⟨w.heap.size, j, none⟩ = (#[.int .i64 3, .int .i64 d, .int .i64 0, .int .i64 0, .int .i64 i] : Array Value)[j]? := fun j => (hb1.cell (p := ⟨w.heap.size, j, none⟩) (by simp)).trans (World.cell?_alloc_at _ _ _ _ rfl)
  have q0 := hq 0; have q1 := hq 1; have q2 := hq 2; have q3 := hq 3; have q4 := hq 4
  have hz : w.heap.size < w1.heap.size := by have := hb1.size; simp at this; omega
  have HB := Lib.hid (((Below.refl _ _).alloc (Nat.le_refl _) _).trans (hb1.mono (by simp)) : Below w.heap.size w w1)
  clear hb1 hq
  simp only [List.getElem?_toArray, List.getElem?_cons_zero, List.getElem?_cons_succ] at q0 q1 q2 q3 q4
  go_wp2_with fail
  refine (R0.out _).mono ?_; rintro e w' ⟨rfl, rfl⟩
  go_wp2_with fail
  go_region_with
    ((first
      | (go_at_call 47; refine (R1.out _).mono ?_; rintro e w' ⟨rfl, rfl⟩)))
  all_goals
    go_wp2_with fail
    go_ret2
    refine fin_str3 ?_ ?_
    · first | rfl | (simp only [str_app] <;> rfl)
    · repeat' (first | exact HB.out | exact Nat.le_refl _ | refine Below.drew ?_ | refine Below.alloc ?_ (by have := HB.out.size; simp; omega) _)
end Go.Proofs.YtnngnfajmncjpaaGreatDoor.TxR
