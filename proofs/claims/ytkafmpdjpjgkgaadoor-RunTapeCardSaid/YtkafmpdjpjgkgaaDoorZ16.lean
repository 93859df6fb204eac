/- DERIVED. ThSame, ThReads in one text. By an AI agent. -/
import Derived.Test.YtkafmpdjpjgkgaaDoorZ03
import Derived.Test.YtkafmpdjpjgkgaaDoorZ04
import Derived.Test.YtkafmpdjpjgkgaaDoorZ05
import Derived.Deep.DeepCutAuto
import Derived.Deep.AppendLies
/- DERIVED. The contract of the reference's Same: whether two lists of numbers are one. By an AI agent. -/
namespace Go.Proofs.YtkafmpdjpjgkgaaDoor.ThRef
open Go.ChangeShapes Go.WideShapes Go.ChangeAt Go.RowKit
set_option linter.unusedVariables false
end Go.Proofs.YtkafmpdjpjgkgaaDoor.ThRef
/- DERIVED. The contract of the reference's Reads. By an AI agent. -/
namespace Go.Proofs.YtkafmpdjpjgkgaaDoor.ThRef
open Go.ChangeShapes Go.WideShapes Go.ChangeAt Go.RowKit
set_option linter.unusedVariables false
def rD (op imm : Int) : Bool := (decide (1 ≤ op) && decide (op ≤ 3)) || decide (op = 13) || decide (op = 15) || (decide (op = 11) && decide (imm ≠ 9) && decide (imm ≠ 15))
def rN (op : Int) : Bool := (decide (7 ≤ op) && decide (op ≤ 10)) || (decide (12 ≤ op) && decide (op ≤ 15))
def rM (op : Int) : Bool := (decide (4 ≤ op) && decide (op ≤ 8)) || decide (op = 11) || decide (op = 14) || decide (op = 15)
theorem can_d7 (op d n m imm : Int) (h : canB op d n m imm = true) (h18 : op ≠ 18) : d ≤ 7 := by
  have ho := can_op op d n m imm h
  obtain ⟨k, rfl⟩ := Int.eq_ofNat_of_zero_le ho.1
  have hl : ∀ i : Fin 21, i.val ≠ 18 → hasB (shapeN i.val) 99 = false := by decide +kernel
  have hlk := hl ⟨k, by omega⟩ (by intro e; apply h18; simp only at e; omega)
  unfold canB dB at h
  simp only [Int.toNat_natCast, Bool.and_eq_true, decide_eq_true_eq] at h
  have hd := h.1.2
  simp only at hlk
  rw [hlk] at hd
  simp at hd
  exact hd.2
/-- What the walk knows: the instruction's cells, the eight truths, that nothing that was there has turned. -/
structure St (op d n m imm : Int) (w wx : World) (f : Nat → Bool) : Prop where
  c0 : wx.cell? ⟨w.heap.size, 0, none⟩ = some (.int .i64 op)
  c1 : wx.cell? ⟨w.heap.size, 1, none⟩ = some (.int .i64 d)
  c2 : wx.cell? ⟨w.heap.size, 2, none⟩ = some (.int .i64 n)
  c3 : wx.cell? ⟨w.heap.size, 3, none⟩ = some (.int .i64 m)
  c4 : wx.cell? ⟨w.heap.size, 4, none⟩ = some (.int .i64 imm)
  b : ∀ r, r < 8 → wx.cell? ⟨w.heap.size + 1 + 1, r, none⟩ = some (.bool (f r))
  fr : ∀ r, wx.frozen? ⟨w.heap.size + 1 + 1, r, none⟩ = false
  below : Below w.heap.size w wx
  size : w.heap.size + 1 + 1 < wx.heap.size
  out : wx.heap[w.heap.size + 1]? = some (.cells #[] 3 (0, 0))
theorem St.set {op d n m imm : Int} {w wx : World} {f : Nat → Bool} (h : St op d n m imm w wx f) (D : Nat) (hD : D < 8) :
    St op d n m imm w (wx.setCell ⟨w.heap.size + 1 + 1, D, none⟩ (.bool true)) (fun r => f r || decide (r = D)) where
  c0 := by rw [World.cell?_setCell_other _ _ _ _ (by intro e; have := congrArg Addr.block e; simp at this; omega)]; exact h.c0
  c1 := by rw [World.cell?_setCell_other _ _ _ _ (by intro e; have := congrArg Addr.block e; simp at this; omega)]; exact h.c1
  c2 := by rw [World.cell?_setCell_other _ _ _ _ (by intro e; have := congrArg Addr.block e; simp at this; omega)]; exact h.c2
  c3 := by rw [World.cell?_setCell_other _ _ _ _ (by intro e; have := congrArg Addr.block e; simp at this; omega)]; exact h.c3
  c4 := by rw [World.cell?_setCell_other _ _ _ _ (by intro e; have := congrArg Addr.block e; simp at this; omega)]; exact h.c4
  b := fun r hr => by
    by_cases e : r = D
    · subst e
      rw [World.cell?_setCell_same _ _ _ (h.b r hr)]
      simp
    · rw [World.cell?_setCell_other _ _ _ _ (by intro e2; have := congrArg Addr.off e2; simp at this; omega), h.b r hr]
      simp [e]
  fr := fun r => by rw [World.frozen?_setCell]; exact h.fr r
  below := h.below.setCell (by show w.heap.size ≤ w.heap.size + 1 + 1; omega) _
  size := by simpa [World.setCell] using h.size
  out := by rw [Below.heap_setCell _ _ _ _ (by show w.heap.size + 1 ≠ w.heap.size + 1 + 1; omega)]; exact h.out
end Go.Proofs.YtkafmpdjpjgkgaaDoor.ThRef
