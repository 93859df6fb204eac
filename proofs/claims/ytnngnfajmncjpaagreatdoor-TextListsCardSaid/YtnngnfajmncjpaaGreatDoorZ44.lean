/- DERIVED. TpBits in one text. By an AI agent. -/
import Derived.Test.YtnngnfajmncjpaaGreatDoorZ23
/- DERIVED. Plain facts: what the reference takes letter by letter is what the program takes field by field. By an AI agent. -/
namespace Go.Proofs.YtnngnfajmncjpaaGreatDoor.Tp
open Go.ChangeShapes Go.WideShapes Go.ChangeAt Go.RowKit Go.Sort ThRef
set_option linter.unusedVariables false
/-- What has been taken so far. -/
structure Tk where
  ok : Bool
  d : Nat
  n : Nat
  m : Nat
  i : Nat
  w : Nat
def Tk.stp (c b : Nat) (s : Tk) : Tk :=
  if c = 48 then { s with ok := s.ok && b == 0 } else if c = 49 then { s with ok := s.ok && b == 1 } else if c = 100 ∨ c = 99 then { s with d := s.d * 2 + b } else if c = 110 then { s with n := s.n * 2 + b }
  else if c = 109 then { s with m := s.m * 2 + b } else if c = 105 then { s with i := s.i * 2 + b, w := s.w * 2 } else s
def tkR (h : Nat) : List Nat → Nat → Tk → Tk
  | [], _, s => s
  | c :: l, k, s => tkR h l (k + 1) (s.stp c (h / 2 ^ (15 - k) % 2))
def ltr (op : Nat) : List Nat := (shapeN op).data.toList.map UInt8.toNat
def adj (op : Nat) (i w : Nat) : Int :=
  if lowN op < 0 ∧ highN op < i then (i : Int) - w else if lowN op = 1 ∧ i = 0 then 32 else i
def Tk.nums (op : Nat) (s : Tk) : Nums := ⟨s.d, s.n, s.m, adj op s.i s.w⟩
def tk0 : Tk := ⟨true, 0, 0, 0, 0, 1⟩
theorem bits16 (h : Nat) (hh : h < 65536) : ∃ b0 b1 b2 b3 b4 b5 b6 b7 b8 b9 b10 b11 b12 b13 b14 b15 : Nat,
    (b0 ≤ 1 ∧ b1 ≤ 1 ∧ b2 ≤ 1 ∧ b3 ≤ 1 ∧ b4 ≤ 1 ∧ b5 ≤ 1 ∧ b6 ≤ 1 ∧ b7 ≤ 1 ∧ b8 ≤ 1 ∧ b9 ≤ 1 ∧ b10 ≤ 1 ∧ b11 ≤ 1 ∧ b12 ≤ 1 ∧ b13 ≤ 1 ∧ b14 ≤ 1 ∧ b15 ≤ 1) ∧
    h = b0 + 2 * b1 + 4 * b2 + 8 * b3 + 16 * b4 + 32 * b5 + 64 * b6 + 128 * b7 + 256 * b8 + 512 * b9 + 1024 * b10 + 2048 * b11 + 4096 * b12 + 8192 * b13 + 16384 * b14 + 32768 * b15 ∧
    (h % 2 = b0 ∧ h / 2 % 2 = b1 ∧ h / 4 % 2 = b2 ∧ h / 8 % 2 = b3 ∧ h / 16 % 2 = b4 ∧ h / 32 % 2 = b5 ∧ h / 64 % 2 = b6 ∧ h / 128 % 2 = b7 ∧ h / 256 % 2 = b8 ∧ h / 512 % 2 = b9 ∧ h / 1024 % 2 = b10 ∧ h / 2048 % 2 = b11 ∧ h / 4096 % 2 = b12 ∧ h / 8192 % 2 = b13 ∧ h / 16384 % 2 = b14 ∧ h / 32768 % 2 = b15) := by
  refine ⟨_, _, _, _, _, _, _, _, _, _, _, _, _, _, _, _, ?_, ?_, rfl, rfl, rfl, rfl, rfl, rfl, rfl, rfl, rfl, rfl, rfl, rfl, rfl, rfl, rfl, rfl⟩
  · omega
  · have e1 : h = 2 * (h / 2) + h % 2 := by omega
    have e2 : h / 2 = 2 * (h / 4) + h / 2 % 2 := by omega
    have e3 : h / 4 = 2 * (h / 8) + h / 4 % 2 := by omega
    have e4 : h / 8 = 2 * (h / 16) + h / 8 % 2 := by omega
    have e5 : h / 16 = 2 * (h / 32) + h / 16 % 2 := by omega
    have e6 : h / 32 = 2 * (h / 64) + h / 32 % 2 := by omega
    have e7 : h / 64 = 2 * (h / 128) + h / 64 % 2 := by omega
    have e8 : h / 128 = 2 * (h / 256) + h / 128 % 2 := by omega
    have e9 : h / 256 = 2 * (h / 512) + h / 256 % 2 := by omega
    have e10 : h / 512 = 2 * (h / 1024) + h / 512 % 2 := by omega
    have e11 : h / 1024 = 2 * (h / 2048) + h / 1024 % 2 := by omega
    have e12 : h / 2048 = 2 * (h / 4096) + h / 2048 % 2 := by omega
    have e13 : h / 4096 = 2 * (h / 8192) + h / 4096 % 2 := by omega
    have e14 : h / 8192 = 2 * (h / 16384) + h / 8192 % 2 := by omega
    have e15 : h / 16384 = 2 * (h / 32768) + h / 16384 % 2 := by omega
    have e16 : h / 32768 = h / 32768 % 2 := by omega
    generalize h / 32768 % 2 = b15 at *
    generalize h / 16384 % 2 = b14 at *
    generalize h / 8192 % 2 = b13 at *
    generalize h / 4096 % 2 = b12 at *
    generalize h / 2048 % 2 = b11 at *
    generalize h / 1024 % 2 = b10 at *
    generalize h / 512 % 2 = b9 at *
    generalize h / 256 % 2 = b8 at *
    generalize h / 128 % 2 = b7 at *
    generalize h / 64 % 2 = b6 at *
    generalize h / 32 % 2 = b5 at *
    generalize h / 16 % 2 = b4 at *
    generalize h / 8 % 2 = b3 at *
    generalize h / 4 % 2 = b2 at *
    generalize h / 2 % 2 = b1 at *
    generalize h % 2 = b0 at *
    omega
set_option maxHeartbeats 16000000 in
theorem tkR_tk (op : Nat) (ho : op < 21) (h : Nat) (hh : h < 65536) : (tkR h (ltr op) 0 tk0).ok = headB op h ∧ (tkR h (ltr op) 0 tk0).nums op = tk op h := by
  obtain ⟨b0, b1, b2, b3, b4, b5, b6, b7, b8, b9, b10, b11, b12, b13, b14, b15, hb, hs, d0, d1, d2, d3, d4, d5, d6, d7, d8, d9, d10, d11, d12, d13, d14, d15⟩ := bits16 h hh
  have hr : op = 0 ∨ op = 1 ∨ op = 2 ∨ op = 3 ∨ op = 4 ∨ op = 5 ∨ op = 6 ∨ op = 7 ∨ op = 8 ∨ op = 9 ∨ op = 10 ∨ op = 11 ∨ op = 12 ∨ op = 13 ∨ op = 14 ∨ op = 15 ∨ op = 16 ∨ op = 17 ∨ op = 18 ∨ op = 19 ∨ op = 20 := by omega
  clear ho
  rcases hr with rfl | rfl | rfl | rfl | rfl | rfl | rfl | rfl | rfl | rfl | rfl | rfl | rfl | rfl | rfl | rfl | rfl | rfl | rfl | rfl | rfl
  all_goals
    simp [ltr, shapeN, shapes, tkR, Tk.stp, tk0, d0, d1, d2, d3, d4, d5, d6, d7, d8, d9, d10, d11, d12, d13, d14, d15, headB, shpN, shps, tk, tkT, takeN, nul, fldN, flds, Nums.set, Tk.nums, adj, lowN, lows, highN, highs]
    clear d0 d1 d2 d3 d4 d5 d6 d7 d8 d9 d10 d11 d12 d13 d14 d15
    (try rw [Bool.eq_iff_iff])
    (try simp)
    (try split) <;> omega
end Go.Proofs.YtnngnfajmncjpaaGreatDoor.Tp
