/- DERIVED. The reference's halfwords in closed form: for each Op a base and its fields, each at its place. By an AI agent. -/
import Derived.Test.YtkipfeljpngkeaaDoorThPut
namespace Go.Proofs.YtkipfeljpngkeaaDoor.ThRef
set_option linter.unusedVariables false
theorem put0 (D N M I : Nat) : putR 0 D N M I = 8192 + D % 8 * 256 + I % 256 * 1 := by
  have e : lets (shapeN 0) 16 = [105, 105, 105, 105, 105, 105, 105, 105, 100, 100, 100, 48, 48, 49, 48, 48] := by decide +kernel
  unfold putR
  rw [e]
  simp [putF, stp]
  omega
theorem put1 (D N M I : Nat) : putR 1 D N M I = 10240 + D % 8 * 256 + I % 256 * 1 := by
  have e : lets (shapeN 1) 16 = [105, 105, 105, 105, 105, 105, 105, 105, 100, 100, 100, 49, 48, 49, 48, 48] := by decide +kernel
  unfold putR
  rw [e]
  simp [putF, stp]
  omega
theorem put2 (D N M I : Nat) : putR 2 D N M I = 12288 + D % 8 * 256 + I % 256 * 1 := by
  have e : lets (shapeN 2) 16 = [105, 105, 105, 105, 105, 105, 105, 105, 100, 100, 100, 48, 49, 49, 48, 48] := by decide +kernel
  unfold putR
  rw [e]
  simp [putF, stp]
  omega
theorem put3 (D N M I : Nat) : putR 3 D N M I = 14336 + D % 8 * 256 + I % 256 * 1 := by
  have e : lets (shapeN 3) 16 = [105, 105, 105, 105, 105, 105, 105, 105, 100, 100, 100, 49, 49, 49, 48, 48] := by decide +kernel
  unfold putR
  rw [e]
  simp [putF, stp]
  omega
theorem put4 (D N M I : Nat) : putR 4 D N M I = 0 + D % 8 * 1 + M % 8 * 8 + I % 32 * 64 := by
  have e : lets (shapeN 4) 16 = [100, 100, 100, 109, 109, 109, 105, 105, 105, 105, 105, 48, 48, 48, 48, 48] := by decide +kernel
  unfold putR
  rw [e]
  simp [putF, stp]
  omega
theorem put5 (D N M I : Nat) : putR 5 D N M I = 2048 + D % 8 * 1 + M % 8 * 8 + I % 32 * 64 := by
  have e : lets (shapeN 5) 16 = [100, 100, 100, 109, 109, 109, 105, 105, 105, 105, 105, 49, 48, 48, 48, 48] := by decide +kernel
  unfold putR
  rw [e]
  simp [putF, stp]
  omega
theorem put6 (D N M I : Nat) : putR 6 D N M I = 4096 + D % 8 * 1 + M % 8 * 8 + I % 32 * 64 := by
  have e : lets (shapeN 6) 16 = [100, 100, 100, 109, 109, 109, 105, 105, 105, 105, 105, 48, 49, 48, 48, 48] := by decide +kernel
  unfold putR
  rw [e]
  simp [putF, stp]
  omega
theorem put7 (D N M I : Nat) : putR 7 D N M I = 6144 + D % 8 * 1 + N % 8 * 8 + M % 8 * 64 := by
  have e : lets (shapeN 7) 16 = [100, 100, 100, 110, 110, 110, 109, 109, 109, 48, 48, 49, 49, 48, 48, 48] := by decide +kernel
  unfold putR
  rw [e]
  simp [putF, stp]
  omega
theorem put8 (D N M I : Nat) : putR 8 D N M I = 6656 + D % 8 * 1 + N % 8 * 8 + M % 8 * 64 := by
  have e : lets (shapeN 8) 16 = [100, 100, 100, 110, 110, 110, 109, 109, 109, 49, 48, 49, 49, 48, 48, 48] := by decide +kernel
  unfold putR
  rw [e]
  simp [putF, stp]
  omega
theorem put9 (D N M I : Nat) : putR 9 D N M I = 7168 + D % 8 * 1 + N % 8 * 8 + I % 8 * 64 := by
  have e : lets (shapeN 9) 16 = [100, 100, 100, 110, 110, 110, 105, 105, 105, 48, 49, 49, 49, 48, 48, 48] := by decide +kernel
  unfold putR
  rw [e]
  simp [putF, stp]
  omega
theorem put10 (D N M I : Nat) : putR 10 D N M I = 7680 + D % 8 * 1 + N % 8 * 8 + I % 8 * 64 := by
  have e : lets (shapeN 10) 16 = [100, 100, 100, 110, 110, 110, 105, 105, 105, 49, 49, 49, 49, 48, 48, 48] := by decide +kernel
  unfold putR
  rw [e]
  simp [putF, stp]
  omega
theorem put11 (D N M I : Nat) : putR 11 D N M I = 16384 + D % 8 * 1 + M % 8 * 8 + I % 16 * 64 := by
  have e : lets (shapeN 11) 16 = [100, 100, 100, 109, 109, 109, 105, 105, 105, 105, 48, 48, 48, 48, 49, 48] := by decide +kernel
  unfold putR
  rw [e]
  simp [putF, stp]
  omega
theorem put12 (D N M I : Nat) : putR 12 D N M I = 26624 + D % 8 * 1 + N % 8 * 8 + I % 32 * 64 := by
  have e : lets (shapeN 12) 16 = [100, 100, 100, 110, 110, 110, 105, 105, 105, 105, 105, 49, 48, 49, 49, 48] := by decide +kernel
  unfold putR
  rw [e]
  simp [putF, stp]
  omega
theorem put13 (D N M I : Nat) : putR 13 D N M I = 24576 + D % 8 * 1 + N % 8 * 8 + I % 32 * 64 := by
  have e : lets (shapeN 13) 16 = [100, 100, 100, 110, 110, 110, 105, 105, 105, 105, 105, 48, 48, 49, 49, 48] := by decide +kernel
  unfold putR
  rw [e]
  simp [putF, stp]
  omega
theorem put14 (D N M I : Nat) : putR 14 D N M I = 22528 + D % 8 * 1 + N % 8 * 8 + M % 8 * 64 := by
  have e : lets (shapeN 14) 16 = [100, 100, 100, 110, 110, 110, 109, 109, 109, 48, 48, 49, 49, 48, 49, 48] := by decide +kernel
  unfold putR
  rw [e]
  simp [putF, stp]
  omega
theorem put15 (D N M I : Nat) : putR 15 D N M I = 20480 + D % 8 * 1 + N % 8 * 8 + M % 8 * 64 := by
  have e : lets (shapeN 15) 16 = [100, 100, 100, 110, 110, 110, 109, 109, 109, 48, 48, 48, 49, 48, 49, 48] := by decide +kernel
  unfold putR
  rw [e]
  simp [putF, stp]
  omega
theorem put16 (D N M I : Nat) : putR 16 D N M I = 18432 + D % 8 * 256 + I % 256 * 1 := by
  have e : lets (shapeN 16) 16 = [105, 105, 105, 105, 105, 105, 105, 105, 100, 100, 100, 49, 48, 48, 49, 48] := by decide +kernel
  unfold putR
  rw [e]
  simp [putF, stp]
  omega
theorem put17 (D N M I : Nat) : putR 17 D N M I = 57344 + I % 2048 * 1 := by
  have e : lets (shapeN 17) 16 = [105, 105, 105, 105, 105, 105, 105, 105, 105, 105, 105, 48, 48, 49, 49, 49] := by decide +kernel
  unfold putR
  rw [e]
  simp [putF, stp]
  omega
theorem put18 (D N M I : Nat) : putR 18 D N M I = 53248 + D % 16 * 256 + I % 256 * 1 := by
  have e : lets (shapeN 18) 16 = [105, 105, 105, 105, 105, 105, 105, 105, 99, 99, 99, 99, 49, 48, 49, 49] := by decide +kernel
  unfold putR
  rw [e]
  simp [putF, stp]
  omega
theorem put19 (D N M I : Nat) : putR 19 D N M I = 48896 := by
  have e : lets (shapeN 19) 16 = [48, 48, 48, 48, 48, 48, 48, 48, 49, 49, 49, 49, 49, 49, 48, 49] := by decide +kernel
  unfold putR
  rw [e]
  simp [putF, stp]
theorem put20 (D N M I : Nat) : putR 20 D N M I = 48640 + I % 256 * 1 := by
  have e : lets (shapeN 20) 16 = [105, 105, 105, 105, 105, 105, 105, 105, 48, 49, 49, 49, 49, 49, 48, 49] := by decide +kernel
  unfold putR
  rw [e]
  simp [putF, stp]
  omega
end Go.Proofs.YtkipfeljpngkeaaDoor.ThRef
