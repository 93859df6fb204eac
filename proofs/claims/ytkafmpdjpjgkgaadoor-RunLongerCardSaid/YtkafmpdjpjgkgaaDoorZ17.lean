/- DERIVED. CoWr in one text. By an AI agent. -/
import Derived.Test.YtkafmpdjpjgkgaaDoorZ05
import Derived.Test.YtkafmpdjpjgkgaaDoorZ16
/- DERIVED. The contracts of the program's sets and Writes. By an AI agent. -/
namespace Go.Proofs.YtkafmpdjpjgkgaaDoor.Tp
open Go.ChangeShapes Go.WideShapes Go.ChangeAt Go.RowKit Go.Sort ThRef
set_option linter.unusedVariables false
/-- An instruction's block in a world that came behind. -/
theorem insCells {op d n m imm : Int} {w w1 : World} (hb : Below (w.alloc (.cells #[.int .i64 op, .int .i64 d, .int .i64 n, .int .i64 m, .int .i64 imm] 58)).heap.size (w.alloc (.cells #[.int .i64 op, .int .i64 d, .int .i64 n, .int .i64 m, .int .i64 imm] 58)) w1) :
    (w1.cell? ⟨w.heap.size, 0, none⟩ = some (.int .i64 op) ∧ w1.cell? ⟨w.heap.size, 1, none⟩ = some (.int .i64 d) ∧ w1.cell? ⟨w.heap.size, 2, none⟩ = some (.int .i64 n) ∧ w1.cell? ⟨w.heap.size, 3, none⟩ = some (.int .i64 m) ∧ w1.cell? ⟨w.heap.size, 4, none⟩ = some (.int .i64 imm)) ∧ Below w.heap.size w w1 ∧ w.heap.size < w1.heap.size := by
  have h : ∀ j, w1.cell? ⟨w.heap.size, j, none⟩ = _ := fun j => (hb.cell (p := ⟨w.heap.size, j, none⟩) (by simp)).trans (World.cell?_alloc_at _ _ _ _ rfl)
  have hz := hb.size
  simp at hz
  exact ⟨⟨h 0, h 1, h 2, h 3, h 4⟩, ((Below.refl _ _).alloc (Nat.le_refl _) _).trans (hb.mono (by simp)), hz⟩
set_option maxHeartbeats 8000000 in
theorem sets (op d n m imm : Int) (h0 : 0 ≤ op) (h20 : op ≤ 20) (w : World) : Calls Tryd.prog 82 #[ins op d n m imm] w fun e w' => e = .returned (.bool (setsB op imm)) ∧ Below w.heap.size w w' := by
  have hr : op = 0 ∨ op = 1 ∨ op = 2 ∨ op = 3 ∨ op = 4 ∨ op = 5 ∨ op = 6 ∨ op = 7 ∨ op = 8 ∨ op = 9 ∨ op = 10 ∨ op = 11 ∨ op = 12 ∨ op = 13 ∨ op = 14 ∨ op = 15 ∨ op = 16 ∨ op = 17 ∨ op = 18 ∨ op = 19 ∨ op = 20 := by omega
  clear h0 h20
  rcases hr with rfl | rfl | rfl | rfl | rfl | rfl | rfl | rfl | rfl | rfl | rfl | rfl | rfl | rfl | rfl | rfl | rfl | rfl | rfl | rfl | rfl
  · go_enter Tryd.func82, Tryd.ntmps82
    go_wp2
    go_ret
    exact ⟨rfl, (Below.refl _ _).alloc (Nat.le_refl _) _⟩
  · go_enter Tryd.func82, Tryd.ntmps82
    go_wp2
    go_ret
    exact ⟨rfl, (Below.refl _ _).alloc (Nat.le_refl _) _⟩
  · go_enter Tryd.func82, Tryd.ntmps82
    go_wp2
    go_ret
    exact ⟨rfl, (Below.refl _ _).alloc (Nat.le_refl _) _⟩
  · go_enter Tryd.func82, Tryd.ntmps82
    go_wp2
    go_ret
    exact ⟨rfl, (Below.refl _ _).alloc (Nat.le_refl _) _⟩
  · go_enter Tryd.func82, Tryd.ntmps82
    go_wp2
    go_ret
    exact ⟨rfl, (Below.refl _ _).alloc (Nat.le_refl _) _⟩
  · go_enter Tryd.func82, Tryd.ntmps82
    go_wp2
    go_ret
    exact ⟨rfl, (Below.refl _ _).alloc (Nat.le_refl _) _⟩
  · go_enter Tryd.func82, Tryd.ntmps82
    go_wp2
    go_ret
    exact ⟨rfl, (Below.refl _ _).alloc (Nat.le_refl _) _⟩
  · go_enter Tryd.func82, Tryd.ntmps82
    go_wp2
    go_ret
    exact ⟨rfl, (Below.refl _ _).alloc (Nat.le_refl _) _⟩
  · go_enter Tryd.func82, Tryd.ntmps82
    go_wp2
    go_ret
    exact ⟨rfl, (Below.refl _ _).alloc (Nat.le_refl _) _⟩
  · go_enter Tryd.func82, Tryd.ntmps82
    go_wp2
    go_ret
    exact ⟨rfl, (Below.refl _ _).alloc (Nat.le_refl _) _⟩
  · go_enter Tryd.func82, Tryd.ntmps82
    go_wp2
    go_ret
    exact ⟨rfl, (Below.refl _ _).alloc (Nat.le_refl _) _⟩
  · by_cases i8 : imm = 8
    · subst i8
      go_enter Tryd.func82, Tryd.ntmps82
      go_wp2
      go_ret
      exact ⟨rfl, (Below.refl _ _).alloc (Nat.le_refl _) _⟩
    by_cases i10 : imm = 10
    · subst i10
      go_enter Tryd.func82, Tryd.ntmps82
      go_wp2
      go_ret
      exact ⟨rfl, (Below.refl _ _).alloc (Nat.le_refl _) _⟩
    by_cases i11 : imm = 11
    · subst i11
      go_enter Tryd.func82, Tryd.ntmps82
      go_wp2
      go_ret
      exact ⟨rfl, (Below.refl _ _).alloc (Nat.le_refl _) _⟩
    have e8 : (imm != 8) = true := by simp [i8]
    have e10 : (imm != 10) = true := by simp [i10]
    have e11 : (imm != 11) = true := by simp [i11]
    have hs : setsB 11 imm = true := by simp [setsB, i8, i10, i11]
    have HS := Lib.hid hs
    clear i8 i10 i11 hs
    go_enter Tryd.func82, Tryd.ntmps82
    go_wp2
    go_ret
    exact ⟨by rw [HS.out]; rfl, (Below.refl _ _).alloc (Nat.le_refl _) _⟩
  · go_enter Tryd.func82, Tryd.ntmps82
    go_wp2
    go_ret
    exact ⟨rfl, (Below.refl _ _).alloc (Nat.le_refl _) _⟩
  · go_enter Tryd.func82, Tryd.ntmps82
    go_wp2
    go_ret
    exact ⟨rfl, (Below.refl _ _).alloc (Nat.le_refl _) _⟩
  · go_enter Tryd.func82, Tryd.ntmps82
    go_wp2
    go_ret
    exact ⟨rfl, (Below.refl _ _).alloc (Nat.le_refl _) _⟩
  · go_enter Tryd.func82, Tryd.ntmps82
    go_wp2
    go_ret
    exact ⟨rfl, (Below.refl _ _).alloc (Nat.le_refl _) _⟩
  · go_enter Tryd.func82, Tryd.ntmps82
    go_wp2
    go_ret
    exact ⟨rfl, (Below.refl _ _).alloc (Nat.le_refl _) _⟩
  · go_enter Tryd.func82, Tryd.ntmps82
    go_wp2
    go_ret
    exact ⟨rfl, (Below.refl _ _).alloc (Nat.le_refl _) _⟩
  · go_enter Tryd.func82, Tryd.ntmps82
    go_wp2
    go_ret
    exact ⟨rfl, (Below.refl _ _).alloc (Nat.le_refl _) _⟩
  · go_enter Tryd.func82, Tryd.ntmps82
    go_wp2
    go_ret
    exact ⟨rfl, (Below.refl _ _).alloc (Nat.le_refl _) _⟩
  · go_enter Tryd.func82, Tryd.ntmps82
    go_wp2
    go_ret
    exact ⟨rfl, (Below.refl _ _).alloc (Nat.le_refl _) _⟩
set_option maxHeartbeats 4000000 in
theorem writes (op d n m imm : Int) (w : World) (hT : Tb w) : Calls Tryd.prog 71 #[ins op d n m imm] w fun e w' => e = .returned (wrV op d n m imm) ∧ Below w.heap.size w w' := by
  have hcan := fun W h => can op d n m imm W h
  have ho := can_op op d n m imm
  have hv : wrV op d n m imm = _ := rfl
  conv at hv => rhs; unfold wrV
  have HT := Lib.hid hT
  clear hT
  generalize canB op d n m imm = cb at hcan ho hv
  have HC := Lib.hid hcan; have HV := Lib.hid hv
  clear hcan hv
  cases cb
  · clear ho
    go_enter Tryd.func71, Tryd.ntmps71
    go_wp2_with fail
    refine (HC.out _ (HT.out.below ((Below.refl _ _).alloc (Nat.le_refl _) _))).mono ?_
    rintro e w1 ⟨rfl, hb1⟩
    go_wp2_with fail
    go_ret2
    exact ⟨by rw [HV.out]; rfl, ((Below.refl _ _).alloc (Nat.le_refl _) _).trans (hb1.mono (by simp))⟩
  · have hst := sets op d n m imm (ho rfl).1 (ho rfl).2
    generalize setsB op imm = sb at hst HV
    have HS := Lib.hid hst
    clear ho hst
    go_enter Tryd.func71, Tryd.ntmps71
    go_wp2_with fail
    refine (HC.out _ (HT.out.below ((Below.refl _ _).alloc (Nat.le_refl _) _))).mono ?_
    rintro e w1 ⟨rfl, hb1⟩
    obtain ⟨⟨q0, q1, q2, q3, q4⟩, hbw, hz⟩ := insCells hb1
    have HB := Lib.hid hbw
    clear hb1 hbw
    go_wp2_with fail
    refine (HS.out _).mono ?_
    rintro e w2 ⟨rfl, hb2⟩
    have p1 := (hb2.cell (p := ⟨w.heap.size, 1, none⟩) hz).trans q1
    have HB2 := Lib.hid (HB.out.trans (hb2.mono HB.out.size))
    clear q0 q1 q2 q3 q4 hb2 hz
    cases sb
    · go_wp2_with fail
      go_ret2
      exact ⟨by rw [HV.out]; rfl, HB2.out⟩
    · go_wp2_with fail
      go_ret2
      exact ⟨by rw [HV.out]; rfl, HB2.out⟩
end Go.Proofs.YtkafmpdjpjgkgaaDoor.Tp
