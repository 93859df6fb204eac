/- DERIVED. The contract of the reference's Writes. By an AI agent. -/
import Derived.Test.YtkipfeljpngkeaaDoorThCan
namespace Go.Proofs.YtkipfeljpngkeaaDoor.ThRef
open Go.ChangeShapes Go.WideShapes Go.ChangeAt Go.RowKit Go.Sort
set_option linter.unusedVariables false
/-- Whether an Op sets its register D. -/
def setsB (op imm : Int) : Bool := !(decide (op = 1) || decide (op = 13) || decide (op = 15) || decide (16 < op) || (decide (op = 11) && (decide (imm = 8) || decide (imm = 10) || decide (imm = 11))))
def wrV (op d n m imm : Int) : Value := if canB op d n m imm && setsB op imm then .tuple #[.int .i64 d, .bool true] else .tuple #[.int .i64 0, .bool false]
theorem can_op (op d n m imm : Int) (h : canB op d n m imm = true) : 0 ≤ op ∧ op ≤ 20 := by
  unfold canB at h
  simp at h
  exact ⟨h.1.1.1, h.1.1.2⟩
set_option maxHeartbeats 4000000 in
theorem writes (op d n m imm : Int) (w : World) : Calls Tryd.prog 24 #[ins op d n m imm] w fun e w' => e = .returned (wrV op d n m imm) ∧ Below w.heap.size w w' := by
  have hc := can op d n m imm
  have ho := can_op op d n m imm
  have hv : wrV op d n m imm = _ := rfl
  conv at hv => rhs; unfold wrV
  generalize canB op d n m imm = cb at hc ho hv
  have HC := Lib.hid hc; have HV := Lib.hid hv
  clear hc hv
  cases cb
  · clear ho
    go_enter Tryd.func24, Tryd.ntmps24
    go_wp2_with fail
    refine (HC.out _).mono ?_; rintro e w1 ⟨rfl, hb1⟩
    go_wp2_with fail
    go_ret2
    exact ⟨by rw [HV.out]; rfl, ((Below.refl _ _).alloc (Nat.le_refl _) _).trans (hb1.mono (by simp))⟩
  · have ho' := ho rfl
    clear ho
    by_cases h11 : op = 11
    · subst h11
      clear ho'
      by_cases i8 : imm = 8
      · subst i8
        go_enter Tryd.func24, Tryd.ntmps24
        go_wp2_with fail
        refine (HC.out _).mono ?_; rintro e w1 ⟨rfl, hb1⟩
        have hcc : ∀ j, w1.cell? ⟨w.heap.size, j, none⟩ = (w.alloc (.cells #[.int .i64 11, .int .i64 d, .int .i64 n, .int .i64 m, .int .i64 8] 23)).cell? ⟨w.heap.size, j, none⟩ := fun j => hb1.cell (p := ⟨_, _, _⟩) (by simp)
        have q1 : w1.cell? ⟨w.heap.size, 1, none⟩ = some (.int .i64 d) := by rw [hcc 1, World.cell?_alloc_at _ _ _ _ rfl]; rfl
        have q4 : w1.cell? ⟨w.heap.size, 4, none⟩ = some (.int .i64 8) := by rw [hcc 4, World.cell?_alloc_at _ _ _ _ rfl]; rfl
        clear hcc
        go_wp2_with fail
        go_ret2
        exact ⟨by rw [HV.out]; rfl, ((Below.refl _ _).alloc (Nat.le_refl _) _).trans (hb1.mono (by simp))⟩
      by_cases i10 : imm = 10
      · subst i10
        go_enter Tryd.func24, Tryd.ntmps24
        go_wp2_with fail
        refine (HC.out _).mono ?_; rintro e w1 ⟨rfl, hb1⟩
        have hcc : ∀ j, w1.cell? ⟨w.heap.size, j, none⟩ = (w.alloc (.cells #[.int .i64 11, .int .i64 d, .int .i64 n, .int .i64 m, .int .i64 10] 23)).cell? ⟨w.heap.size, j, none⟩ := fun j => hb1.cell (p := ⟨_, _, _⟩) (by simp)
        have q1 : w1.cell? ⟨w.heap.size, 1, none⟩ = some (.int .i64 d) := by rw [hcc 1, World.cell?_alloc_at _ _ _ _ rfl]; rfl
        have q4 : w1.cell? ⟨w.heap.size, 4, none⟩ = some (.int .i64 10) := by rw [hcc 4, World.cell?_alloc_at _ _ _ _ rfl]; rfl
        clear hcc
        go_wp2_with fail
        go_ret2
        exact ⟨by rw [HV.out]; rfl, ((Below.refl _ _).alloc (Nat.le_refl _) _).trans (hb1.mono (by simp))⟩
      by_cases i11 : imm = 11
      · subst i11
        go_enter Tryd.func24, Tryd.ntmps24
        go_wp2_with fail
        refine (HC.out _).mono ?_; rintro e w1 ⟨rfl, hb1⟩
        have hcc : ∀ j, w1.cell? ⟨w.heap.size, j, none⟩ = (w.alloc (.cells #[.int .i64 11, .int .i64 d, .int .i64 n, .int .i64 m, .int .i64 11] 23)).cell? ⟨w.heap.size, j, none⟩ := fun j => hb1.cell (p := ⟨_, _, _⟩) (by simp)
        have q1 : w1.cell? ⟨w.heap.size, 1, none⟩ = some (.int .i64 d) := by rw [hcc 1, World.cell?_alloc_at _ _ _ _ rfl]; rfl
        have q4 : w1.cell? ⟨w.heap.size, 4, none⟩ = some (.int .i64 11) := by rw [hcc 4, World.cell?_alloc_at _ _ _ _ rfl]; rfl
        clear hcc
        go_wp2_with fail
        go_ret2
        exact ⟨by rw [HV.out]; rfl, ((Below.refl _ _).alloc (Nat.le_refl _) _).trans (hb1.mono (by simp))⟩
      have e8 : (imm == 8) = false := by simp [i8]
      have e10 : (imm == 10) = false := by simp [i10]
      have e11 : (imm == 11) = false := by simp [i11]
      have hs : setsB 11 imm = true := by simp [setsB, i8, i10, i11]
      have HS := Lib.hid hs
      clear i8 i10 i11 hs
      go_enter Tryd.func24, Tryd.ntmps24
      go_wp2_with fail
      refine (HC.out _).mono ?_; rintro e w1 ⟨rfl, hb1⟩
      have hcc : ∀ j, w1.cell? ⟨w.heap.size, j, none⟩ = (w.alloc (.cells #[.int .i64 11, .int .i64 d, .int .i64 n, .int .i64 m, .int .i64 imm] 23)).cell? ⟨w.heap.size, j, none⟩ := fun j => hb1.cell (p := ⟨_, _, _⟩) (by simp)
      have q1 : w1.cell? ⟨w.heap.size, 1, none⟩ = some (.int .i64 d) := by rw [hcc 1, World.cell?_alloc_at _ _ _ _ rfl]; rfl
      have q4 : w1.cell? ⟨w.heap.size, 4, none⟩ = some (.int .i64 imm) := by rw [hcc 4, World.cell?_alloc_at _ _ _ _ rfl]; rfl
      clear hcc
      go_wp2_with fail
      go_ret2
      exact ⟨by rw [HV.out]; rw [HS.out]; rfl, ((Below.refl _ _).alloc (Nat.le_refl _) _).trans (hb1.mono (by simp))⟩
    · have H11 : Hid (¬ op = 11) := Lib.hid h11
      clear h11
      have hr : op = 0 ∨ op = 1 ∨ op = 2 ∨ op = 3 ∨ op = 4 ∨ op = 5 ∨ op = 6 ∨ op = 7 ∨ op = 8 ∨ op = 9 ∨ op = 10 ∨ op = 11 ∨ op = 12 ∨ op = 13 ∨ op = 14 ∨ op = 15 ∨ op = 16 ∨ op = 17 ∨ op = 18 ∨ op = 19 ∨ op = 20 := by omega
      clear ho'
      rcases hr with rfl | rfl | rfl | rfl | rfl | rfl | rfl | rfl | rfl | rfl | rfl | rfl | rfl | rfl | rfl | rfl | rfl | rfl | rfl | rfl | rfl
      all_goals
        first
        | exact absurd rfl H11.out
        | (go_enter Tryd.func24, Tryd.ntmps24
           go_wp2_with fail
           refine (HC.out _).mono ?_; rintro e w1 ⟨rfl, hb1⟩
           have hcc : ∀ j, w1.cell? ⟨w.heap.size, j, none⟩ = (w.alloc (.cells #[.int .i64 _, .int .i64 d, .int .i64 n, .int .i64 m, .int .i64 imm] 23)).cell? ⟨w.heap.size, j, none⟩ := fun j => hb1.cell (p := ⟨_, _, _⟩) (by simp)
           have q1 : w1.cell? ⟨w.heap.size, 1, none⟩ = some (.int .i64 d) := by rw [hcc 1, World.cell?_alloc_at _ _ _ _ rfl]; rfl
           have q4 : w1.cell? ⟨w.heap.size, 4, none⟩ = some (.int .i64 imm) := by rw [hcc 4, World.cell?_alloc_at _ _ _ _ rfl]; rfl
           clear hcc
           go_wp2_with fail
           go_ret2
           exact ⟨by rw [HV.out]; rfl, ((Below.refl _ _).alloc (Nat.le_refl _) _).trans (hb1.mono (by simp))⟩)
end Go.Proofs.YtkipfeljpngkeaaDoor.ThRef
