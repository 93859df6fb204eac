/- DERIVED. ThPut, ThForm in one text. By an AI agent. -/
import Derived.Test.YtnngnfajmncjpaaGreatDoorZ04
/- DERIVED. The contract of the reference's Put. By an AI agent. -/
namespace Go.Proofs.YtnngnfajmncjpaaGreatDoor.ThRef
open Go.ChangeShapes Go.WideShapes Go.ChangeAt Go.RowKit Go.Sort
set_option linter.unusedVariables false
theorem can_op (op d n m imm : Int) (h : canB op d n m imm = true) : 0 ≤ op ∧ op ≤ 20 := by
  unfold canB at h
  simp at h
  exact ⟨h.1.1.1, h.1.1.2⟩
/-- What one letter of a shape does: the bit, and what is left of the fields. -/
def stp (c D N M I : Nat) : Nat × Nat × Nat × Nat × Nat :=
  if c = 49 then (1, D, N, M, I) else if c = 100 ∨ c = 99 then (D % 2, D / 2, N, M, I) else if c = 110 then (N % 2, D, N / 2, M, I) else if c = 109 then (M % 2, D, N, M / 2, I)
  else if c = 105 then (I % 2, D, N, M, I / 2) else (0, D, N, M, I)
def putF : List Nat → Nat → Nat → Nat → Nat → Nat → Nat
  | [], _, _, _, _, _ => 0
  | c :: l, p, D, N, M, I => (stp c D N M I).1 * p + putF l (2 * p) (stp c D N M I).2.1 (stp c D N M I).2.2.1 (stp c D N M I).2.2.2.1 (stp c D N M I).2.2.2.2
/-- The letters that are left, the lowest first. -/
def lets (s : ByteArray) (K : Nat) : List Nat := ((s.data.toList.take K).reverse).map UInt8.toNat
theorem lets_succ (s : ByteArray) (m : Nat) (h : m < s.size) : lets s (m + 1) = (s[m]'h).toNat :: lets s m := by
  unfold lets
  rw [List.take_succ_eq_append_getElem (by simpa using h)]
  simp
  rfl
def putR (k : Nat) (D N M I : Nat) : Nat := putF (lets (shapeN k) 16) 1 D N M I
/-- The halfword of an instruction and the error. -/
def putV (op d n m imm : Int) : Value :=
  if canB op d n m imm then .tuple #[.int .u16 ((putR op.toNat d.toNat n.toNat m.toNat (if imm < 0 then imm + 2048 else imm).toNat : Nat) : Int), .int .i64 0] else .tuple #[.int .u16 0, .int .i64 1]
theorem pow_le (m : Nat) (h : m ≤ 15) : 2 ^ m ≤ 32768 := Nat.le_trans (Nat.pow_le_pow_right (by decide) h) (by decide)
theorem stp_le (c D N M I : Nat) : (stp c D N M I).1 ≤ 1 := by
  unfold stp
  split
  · simp
  · split
    · simp; omega
    · split
      · simp; omega
      · split
        · simp; omega
        · split
          · simp; omega
          · simp
theorem put_step (S : ByteArray) (r c H D N M I b D' N' M' I' B T : Nat) (hr : r ≤ 15) (hl : lets S (r + 1) = c :: lets S r) (hs : stp c D N M I = (b, D', N', M', I'))
    (h : H < 2 ^ (16 - (r + 1)) ∧ H + putF (lets S (r + 1)) (2 ^ (16 - (r + 1))) D N M I = T) (hB : B = b * 2 ^ (15 - r)) :
    H + B < 2 ^ (16 - r) ∧ H + B + putF (lets S r) (2 ^ (16 - r)) D' N' M' I' = T := by
  have hb := stp_le c D N M I
  rw [hs] at hb
  have hb1 : b ≤ 1 := hb
  rw [show 16 - (r + 1) = 15 - r by omega] at h
  obtain ⟨h1, h2⟩ := h
  rw [hl, putF, hs] at h2
  have e : 2 ^ (16 - r) = 2 * 2 ^ (15 - r) := by rw [show 16 - r = (15 - r) + 1 by omega, Nat.pow_succ, Nat.mul_comm]
  rw [e]
  generalize 2 ^ (15 - r) = q at *
  have hBq : B ≤ q := by rw [hB]; exact Nat.le_trans (Nat.mul_le_mul_right q hb1) (by omega)
  refine ⟨by omega, ?_⟩
  simp only at h2
  rw [← h2, hB]
  omega
theorem dbl (b r J B : Nat) (hJ : r ≤ J) (h : B = b * 2 ^ (J - r)) : B * 2 = b * 2 ^ (J + 1 - r) := by
  rw [h, show J + 1 - r = (J - r) + 1 by omega, Nat.pow_succ, Nat.mul_assoc]
theorem dbl_le (b r J B : Nat) (hb : b ≤ 1) (hJ : J ≤ 15) (h : B = b * 2 ^ (J - r)) : B ≤ 32768 := by
  rw [h]
  exact Nat.le_trans (Nat.mul_le_mul hb (pow_le (J - r) (by omega))) (by omega)
theorem can_bounds (op d n m imm : Int) (h : canB op d n m imm = true) : (0 ≤ d ∧ d ≤ 13) ∧ (0 ≤ n ∧ n ≤ 7) ∧ (0 ≤ m ∧ m ≤ 7) ∧ (-1024 ≤ imm ∧ imm ≤ 1023) := by
  have ho := can_op op d n m imm h
  obtain ⟨k, rfl⟩ := Int.eq_ofNat_of_zero_le ho.1
  have hk : k < 21 := by omega
  have hl : ∀ i : Fin 21, -1024 ≤ lowN i.val ∧ highN i.val ≤ 1023 := by decide
  have hlk := hl ⟨k, hk⟩
  unfold canB dB restB at h
  simp only [Int.toNat_natCast, Bool.and_eq_true, decide_eq_true_eq] at h
  obtain ⟨⟨⟨_, _⟩, hd⟩, ⟨⟨⟨⟨⟨⟨⟨_, h1⟩, h2⟩, _⟩, h3⟩, h4⟩, h5⟩, h6⟩⟩ := h
  refine ⟨?_, ⟨h1, h2⟩, ⟨h3, h4⟩, by simp only at hlk; omega, by simp only at hlk; omega⟩
  split at hd
  · simp at hd; exact hd
  · simp at hd; omega
end Go.Proofs.YtnngnfajmncjpaaGreatDoor.ThRef
/- DERIVED. The reference's halfwords in closed form: for each Op a base and its fields, each at its place. By an AI agent. -/
namespace Go.Proofs.YtnngnfajmncjpaaGreatDoor.ThRef
set_option linter.unusedVariables false
theorem put0 (D N M I : Nat) : putR 0 D N M I = 8192 + D % 8 * 256 + I % 256 * 1 := by
  have e : lets (shapeN 0) 16 = [105, 105, 105, 105, 105, 105, 105, 105, 100, 100, 100, 48, 48, 49, 48, 48] := by decide +kernel
  unfold putR
  rw [e]
  simp [putF, stp]
  omega
theorem put1 (D N M I : Nat) : putR 1 D N M I = 10240 + D % 8 * 256 + I % 256 * 1 := by
  have e : lets (shapeN 1) 16 = [105, 105, 105, 105, 105, 105, 105, 105, 100, 100, 100, 49, 48, 49, 48, 48] := by decide +kernel
  unfold putR
  rw [e]
  simp [putF, stp]
  omega
theorem put2 (D N M I : Nat) : putR 2 D N M I = 12288 + D % 8 * 256 + I % 256 * 1 := by
  have e : lets (shapeN 2) 16 = [105, 105, 105, 105, 105, 105, 105, 105, 100, 100, 100, 48, 49, 49, 48, 48] := by decide +kernel
  unfold putR
  rw [e]
  simp [putF, stp]
  omega
theorem put3 (D N M I : Nat) : putR 3 D N M I = 14336 + D % 8 * 256 + I % 256 * 1 := by
  have e : lets (shapeN 3) 16 = [105, 105, 105, 105, 105, 105, 105, 105, 100, 100, 100, 49, 49, 49, 48, 48] := by decide +kernel
  unfold putR
  rw [e]
  simp [putF, stp]
  omega
theorem put4 (D N M I : Nat) : putR 4 D N M I = 0 + D % 8 * 1 + M % 8 * 8 + I % 32 * 64 := by
  have e : lets (shapeN 4) 16 = [100, 100, 100, 109, 109, 109, 105, 105, 105, 105, 105, 48, 48, 48, 48, 48] := by decide +kernel
  unfold putR
  rw [e]
  simp [putF, stp]
  omega
theorem put5 (D N M I : Nat) : putR 5 D N M I = 2048 + D % 8 * 1 + M % 8 * 8 + I % 32 * 64 := by
  have e : lets (shapeN 5) 16 = [100, 100, 100, 109, 109, 109, 105, 105, 105, 105, 105, 49, 48, 48, 48, 48] := by decide +kernel
  unfold putR
  rw [e]
  simp [putF, stp]
  omega
theorem put6 (D N M I : Nat) : putR 6 D N M I = 4096 + D % 8 * 1 + M % 8 * 8 + I % 32 * 64 := by
  have e : lets (shapeN 6) 16 = [100, 100, 100, 109, 109, 109, 105, 105, 105, 105, 105, 48, 49, 48, 48, 48] := by decide +kernel
  unfold putR
  rw [e]
  simp [putF, stp]
  omega
theorem put7 (D N M I : Nat) : putR 7 D N M I = 6144 + D % 8 * 1 + N % 8 * 8 + M % 8 * 64 := by
  have e : lets (shapeN 7) 16 = [100, 100, 100, 110, 110, 110, 109, 109, 109, 48, 48, 49, 49, 48, 48, 48] := by decide +kernel
  unfold putR
  rw [e]
  simp [putF, stp]
  omega
theorem put8 (D N M I : Nat) : putR 8 D N M I = 6656 + D % 8 * 1 + N % 8 * 8 + M % 8 * 64 := by
  have e : lets (shapeN 8) 16 = [100, 100, 100, 110, 110, 110, 109, 109, 109, 49, 48, 49, 49, 48, 48, 48] := by decide +kernel
  unfold putR
  rw [e]
  simp [putF, stp]
  omega
theorem put9 (D N M I : Nat) : putR 9 D N M I = 7168 + D % 8 * 1 + N % 8 * 8 + I % 8 * 64 := by
  have e : lets (shapeN 9) 16 = [100, 100, 100, 110, 110, 110, 105, 105, 105, 48, 49, 49, 49, 48, 48, 48] := by decide +kernel
  unfold putR
  rw [e]
  simp [putF, stp]
  omega
theorem put10 (D N M I : Nat) : putR 10 D N M I = 7680 + D % 8 * 1 + N % 8 * 8 + I % 8 * 64 := by
  have e : lets (shapeN 10) 16 = [100, 100, 100, 110, 110, 110, 105, 105, 105, 49, 49, 49, 49, 48, 48, 48] := by decide +kernel
  unfold putR
  rw [e]
  simp [putF, stp]
  omega
theorem put11 (D N M I : Nat) : putR 11 D N M I = 16384 + D % 8 * 1 + M % 8 * 8 + I % 16 * 64 := by
  have e : lets (shapeN 11) 16 = [100, 100, 100, 109, 109, 109, 105, 105, 105, 105, 48, 48, 48, 48, 49, 48] := by decide +kernel
  unfold putR
  rw [e]
  simp [putF, stp]
  omega
theorem put12 (D N M I : Nat) : putR 12 D N M I = 26624 + D % 8 * 1 + N % 8 * 8 + I % 32 * 64 := by
  have e : lets (shapeN 12) 16 = [100, 100, 100, 110, 110, 110, 105, 105, 105, 105, 105, 49, 48, 49, 49, 48] := by decide +kernel
  unfold putR
  rw [e]
  simp [putF, stp]
  omega
theorem put13 (D N M I : Nat) : putR 13 D N M I = 24576 + D % 8 * 1 + N % 8 * 8 + I % 32 * 64 := by
  have e : lets (shapeN 13) 16 = [100, 100, 100, 110, 110, 110, 105, 105, 105, 105, 105, 48, 48, 49, 49, 48] := by decide +kernel
  unfold putR
  rw [e]
  simp [putF, stp]
  omega
theorem put14 (D N M I : Nat) : putR 14 D N M I = 22528 + D % 8 * 1 + N % 8 * 8 + M % 8 * 64 := by
  have e : lets (shapeN 14) 16 = [100, 100, 100, 110, 110, 110, 109, 109, 109, 48, 48, 49, 49, 48, 49, 48] := by decide +kernel
  unfold putR
  rw [e]
  simp [putF, stp]
  omega
theorem put15 (D N M I : Nat) : putR 15 D N M I = 20480 + D % 8 * 1 + N % 8 * 8 + M % 8 * 64 := by
  have e : lets (shapeN 15) 16 = [100, 100, 100, 110, 110, 110, 109, 109, 109, 48, 48, 48, 49, 48, 49, 48] := by decide +kernel
  unfold putR
  rw [e]
  simp [putF, stp]
  omega
theorem put16 (D N M I : Nat) : putR 16 D N M I = 18432 + D % 8 * 256 + I % 256 * 1 := by
  have e : lets (shapeN 16) 16 = [105, 105, 105, 105, 105, 105, 105, 105, 100, 100, 100, 49, 48, 48, 49, 48] := by decide +kernel
  unfold putR
  rw [e]
  simp [putF, stp]
  omega
theorem put17 (D N M I : Nat) : putR 17 D N M I = 57344 + I % 2048 * 1 := by
  have e : lets (shapeN 17) 16 = [105, 105, 105, 105, 105, 105, 105, 105, 105, 105, 105, 48, 48, 49, 49, 49] := by decide +kernel
  unfold putR
  rw [e]
  simp [putF, stp]
  omega
theorem put18 (D N M I : Nat) : putR 18 D N M I = 53248 + D % 16 * 256 + I % 256 * 1 := by
  have e : lets (shapeN 18) 16 = [105, 105, 105, 105, 105, 105, 105, 105, 99, 99, 99, 99, 49, 48, 49, 49] := by decide +kernel
  unfold putR
  rw [e]
  simp [putF, stp]
  omega
theorem put19 (D N M I : Nat) : putR 19 D N M I = 48896 := by
  have e : lets (shapeN 19) 16 = [48, 48, 48, 48, 48, 48, 48, 48, 49, 49, 49, 49, 49, 49, 48, 49] := by decide +kernel
  unfold putR
  rw [e]
  simp [putF, stp]
theorem put20 (D N M I : Nat) : putR 20 D N M I = 48640 + I % 256 * 1 := by
  have e : lets (shapeN 20) 16 = [105, 105, 105, 105, 105, 105, 105, 105, 48, 49, 49, 49, 49, 49, 48, 49] := by decide +kernel
  unfold putR
  rw [e]
  simp [putF, stp]
  omega
end Go.Proofs.YtnngnfajmncjpaaGreatDoor.ThRef
