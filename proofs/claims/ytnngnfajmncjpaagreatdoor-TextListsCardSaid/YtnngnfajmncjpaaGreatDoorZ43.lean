/- DERIVED. TxRShow in one text. By an AI agent. -/
import Derived.Test.YtnngnfajmncjpaaGreatDoorZ18
import Derived.Test.YtnngnfajmncjpaaGreatDoorZ34
import Derived.Test.YtnngnfajmncjpaaGreatDoorZ35
import Derived.Test.YtnngnfajmncjpaaGreatDoorZ36
import Derived.Test.YtnngnfajmncjpaaGreatDoorZ37
import Derived.Test.YtnngnfajmncjpaaGreatDoorZ38
import Derived.Test.YtnngnfajmncjpaaGreatDoorZ39
import Derived.Test.YtnngnfajmncjpaaGreatDoorZ40
import Derived.Test.YtnngnfajmncjpaaGreatDoorZ41
import Derived.Test.YtnngnfajmncjpaaGreatDoorZ42
/- DERIVED. The contract of the reference's Show. By an AI agent; written by gen-txrsh4.py. -/
namespace Go.Proofs.YtnngnfajmncjpaaGreatDoor.TxR
open Go.ChangeShapes Go.WideShapes Go.ChangeAt Go.RowKit Go.Lib Tx
set_option linter.unusedVariables false
set_option linter.unusedSimpArgs false
set_option maxRecDepth 100000 in
set_option maxHeartbeats 40000000 in
theorem showNo (op d n m i : Int) (w : World) (h : ThRef.canB op d n m i = false) :
    Calls Tryz.prog 26 #[.agg #[.int .i64 op, .int .i64 d, .int .i64 n, .int .i64 m, .int .i64 i]] w fun e w' => e = .returned (.tuple #[.string ⟨#[]⟩, .bool false]) ∧ Below w.heap.size w w' := by
  have hc := fun W => ThRef.can op d n m i W
  simp only [h] at hc
  have HC := Lib.hid hc
  clear hc h
  go_enter Tryz.func26, Tryz.ntmps26
  go_wp2_with fail
  refine (HC.out _).mono ?_
  rintro e w1 ⟨rfl, hb1⟩
  have HB := Lib.hid (((Below.refl _ _).alloc (Nat.le_refl _) _).trans (hb1.mono (by simp)) : Below w.heap.size w w1)
  clear hb1
  go_wp2_with fail
  go_ret2
  exact ⟨rfl, HB.out⟩
theorem showYes (k : Nat) (hk : k < 21) (d n m i : Int) (w : World) (h : ThRef.canB k d n m i = true) :
    Calls Tryz.prog 26 #[.agg #[.int .i64 k, .int .i64 d, .int .i64 n, .int .i64 m, .int .i64 i]] w fun e w' => e = .returned (.tuple #[str (showL k ⟨d, n, m, i⟩), .bool true]) ∧ Below w.heap.size w w' := by
  have ok := (okk_of k hk d n m i).1 h
  have bd := ok.bnd
  obtain ⟨_, d0, d1, n0, n1, m0, m1, i0, i1⟩ := ok
  have hc := fun W => ThRef.can k d n m i W
  simp only [h] at hc
  clear h
  simp only at bd d0 d1 n0 n1 m0 m1 i0 i1
  obtain ⟨b1, b2, b3, b4⟩ := bd
  have hx : k = 0 ∨ k = 1 ∨ k = 2 ∨ k = 3 ∨ k = 4 ∨ k = 5 ∨ k = 6 ∨ k = 7 ∨ k = 8 ∨ k = 9 ∨ k = 10 ∨ k = 11 ∨ k = 12 ∨ k = 13 ∨ k = 14 ∨ k = 15 ∨ k = 16 ∨ k = 17 ∨ k = 18 ∨ k = 19 ∨ k = 20 := by omega
  rcases hx with rfl | rfl | rfl | rfl | rfl | rfl | rfl | rfl | rfl | rfl | rfl | rfl | rfl | rfl | rfl | rfl | rfl | rfl | rfl | rfl | rfl
  · have zn : nHi 0 = 0 := by decide
    obtain rfl : n = 0 := by omega
    have zm : mHi 0 = 0 := by decide
    obtain rfl : m = 0 := by omega
    exact show0 d i w b1 b4 hc
  · have zn : nHi 1 = 0 := by decide
    obtain rfl : n = 0 := by omega
    have zm : mHi 1 = 0 := by decide
    obtain rfl : m = 0 := by omega
    exact show1 d i w b1 b4 hc
  · have zn : nHi 2 = 0 := by decide
    obtain rfl : n = 0 := by omega
    have zm : mHi 2 = 0 := by decide
    obtain rfl : m = 0 := by omega
    exact show2 d i w b1 b4 hc
  · have zn : nHi 3 = 0 := by decide
    obtain rfl : n = 0 := by omega
    have zm : mHi 3 = 0 := by decide
    obtain rfl : m = 0 := by omega
    exact show3 d i w b1 b4 hc
  · have zn : nHi 4 = 0 := by decide
    obtain rfl : n = 0 := by omega
    exact show4 d m i w b1 b3 b4 hc
  · have zn : nHi 5 = 0 := by decide
    obtain rfl : n = 0 := by omega
    exact show5 d m i w b1 b3 b4 hc
  · have zn : nHi 6 = 0 := by decide
    obtain rfl : n = 0 := by omega
    exact show6 d m i w b1 b3 b4 hc
  · have z1 : (iHi[7]?.getD 0 : Int) = 0 := by decide
    have z0 : (iLo[7]?.getD 0 : Int) = 0 := by decide
    obtain rfl : i = 0 := by omega
    exact show7 d n m w b1 b2 b3 hc
  · have z1 : (iHi[8]?.getD 0 : Int) = 0 := by decide
    have z0 : (iLo[8]?.getD 0 : Int) = 0 := by decide
    obtain rfl : i = 0 := by omega
    exact show8 d n m w b1 b2 b3 hc
  · have zm : mHi 9 = 0 := by decide
    obtain rfl : m = 0 := by omega
    exact show9 d n i w b1 b2 b4 hc
  · have zm : mHi 10 = 0 := by decide
    obtain rfl : m = 0 := by omega
    exact show10 d n i w b1 b2 b4 hc
  · have zn : nHi 11 = 0 := by decide
    obtain rfl : n = 0 := by omega
    have z1 : (iHi[11]?.getD 0 : Int) = 15 := by decide
    have z0 : (iLo[11]?.getD 0 : Int) = 0 := by decide
    exact show11 d m i w b1 b3 (by omega) hc
  · have zm : mHi 12 = 0 := by decide
    obtain rfl : m = 0 := by omega
    exact show12 d n i w b1 b2 b4 hc
  · have zm : mHi 13 = 0 := by decide
    obtain rfl : m = 0 := by omega
    exact show13 d n i w b1 b2 b4 hc
  · have z1 : (iHi[14]?.getD 0 : Int) = 0 := by decide
    have z0 : (iLo[14]?.getD 0 : Int) = 0 := by decide
    obtain rfl : i = 0 := by omega
    exact show14 d n m w b1 b2 b3 hc
  · have z1 : (iHi[15]?.getD 0 : Int) = 0 := by decide
    have z0 : (iLo[15]?.getD 0 : Int) = 0 := by decide
    obtain rfl : i = 0 := by omega
    exact show15 d n m w b1 b2 b3 hc
  · have zn : nHi 16 = 0 := by decide
    obtain rfl : n = 0 := by omega
    have zm : mHi 16 = 0 := by decide
    obtain rfl : m = 0 := by omega
    exact show16 d i w b1 b4 hc
  · have zd : dHi 17 = 0 := by decide
    obtain rfl : d = 0 := by omega
    have zn : nHi 17 = 0 := by decide
    obtain rfl : n = 0 := by omega
    have zm : mHi 17 = 0 := by decide
    obtain rfl : m = 0 := by omega
    exact show17 i w b4 hc
  · have zn : nHi 18 = 0 := by decide
    obtain rfl : n = 0 := by omega
    have zm : mHi 18 = 0 := by decide
    obtain rfl : m = 0 := by omega
    exact show18 d i w b1 b4 hc
  · have zd : dHi 19 = 0 := by decide
    obtain rfl : d = 0 := by omega
    have zn : nHi 19 = 0 := by decide
    obtain rfl : n = 0 := by omega
    have zm : mHi 19 = 0 := by decide
    obtain rfl : m = 0 := by omega
    have z1 : (iHi[19]?.getD 0 : Int) = 0 := by decide
    have z0 : (iLo[19]?.getD 0 : Int) = 0 := by decide
    obtain rfl : i = 0 := by omega
    exact show19 w hc
  · have zd : dHi 20 = 0 := by decide
    obtain rfl : d = 0 := by omega
    have zn : nHi 20 = 0 := by decide
    obtain rfl : n = 0 := by omega
    have zm : mHi 20 = 0 := by decide
    obtain rfl : m = 0 := by omega
    exact show20 i w b4 hc
theorem showR (op d n m i : Int) (w : World) : Calls Tryz.prog 26 #[ThRef.ins op d n m i] w fun e w' => e = .returned (shwV op d n m i) ∧ Below w.heap.size w w' := by
  unfold shwV
  by_cases h : ThRef.canB op d n m i = true
  · rw [if_pos h]
    have ho : 0 ≤ op ∧ op ≤ 20 := by
      unfold ThRef.canB at h
      simp only [Bool.and_eq_true, decide_eq_true_eq] at h
      exact ⟨h.1.1.1, h.1.1.2⟩
    obtain ⟨k, rfl⟩ : ∃ k : Nat, op = k := ⟨op.toNat, by omega⟩
    exact showYes k (by omega) d n m i w h
  · rw [if_neg h]
    exact showNo op d n m i w (by simpa using h)
end Go.Proofs.YtnngnfajmncjpaaGreatDoor.TxR
