/- DERIVED. MmLaw in one text. By an AI agent. -/
import Derived.Test.YtkafmpdjpjgkgaaDoorZ14
/- DERIVED. The laws' living call, and their short. By an AI agent. -/
namespace Go.Proofs.YtkafmpdjpjgkgaaDoor.Mm
open Go.ChangeShapes Go.WideShapes Go.ChangeAt Go.RowKit Args
set_option linter.unusedVariables false
theorem back {X : Nat → Prop} {w w1 w' : World} (h : Ext w w1) (hu : Upd X w1 w') (hX : ∀ k, X k → w.heap.size ≤ k) : Ext w w' := Below.trans h (hu.below h.size hX)
theorem PM.X_low {t u16 u32 : TypeId} {n0 : Nat} {h : Hd} {s : St} {w : World} (p : PM t u16 u32 n0 h s w) : ∀ k, h.X k → n0 ≤ k := fun k hk => (p.lt (Hd.XB hk)).1
theorem new_c (AC : Option Addr) (cC : Nat) (C : List Int) (n : Nat) (AT : Option Addr) (cT : Nat) (T : List Int) (w : World) (hC : Lies w AC (C.map (.int .u16))) (hT : Lies w AT (T.map (.int .u32))) (hc : C.length ≤ cC) (hcm : cC ≤ maxLen)
    (f : Fit ⟨C, noughts n, T, 0, 0⟩) (lT : T.length ≤ 60000) :
    Calls Tryd.prog 39 #[.slice AC C.length cC, .int .i64 n, .slice AT T.length cT] w (NewEnd 80 ⟨C, noughts n, T, 0, 0⟩ w) := by
  have n1 : n ≤ 16000 := by have := f.wl; simp only [noughts_len] at this; exact this
  exact new_any AC cC C n n n (by rw [if_neg (by omega)]) (by split <;> omega) AT cT T w hC hT hc hcm f lT
theorem noughts_in (n : Nat) : ∀ z ∈ noughts n, 0 ≤ z ∧ z < 4294967296 := fun z hz => by
  have := List.eq_of_mem_replicate hz
  omega
def s0 : St := ⟨[], noughts 4, [9], 0, 0⟩
theorem f1 : storeE s0 536870916 = 0 := by decide +kernel
theorem f2 : lookV (storeS s0 536870916 7) 536870916 = (7, 0) := by decide +kernel
theorem f3 : lookV (loadS (storeS s0 536870916 7) 536870916) 1073741824 = (9, 0) := by decide +kernel
theorem f4 : (loadS (loadS (storeS s0 536870916 7) 536870916) 1073741824).b = 9 := by decide +kernel
theorem f5 : (loadS (loadS (storeS s0 536870916 7) 536870916) 1073741824).d = 1 := by decide +kernel
theorem lies_take {w : World} {A : Option Addr} {k : IntKind} {zs : List Int} (h : Lies w A (zs.map (.int k))) (n : Nat) : Lies w A ((zs.take n).map (.int k)) := fun j u hj => h j u (by
  rw [List.map_take, List.getElem?_take] at hj
  split at hj
  · exact hj
  · cases hj)
theorem lies_addr {w : World} {A : Option Addr} {k : IntKind} {zs : List Int} (h : Lies w A (zs.map (.int k))) (h0 : 0 < zs.length) : ∃ b o, A = some ⟨b, o, none⟩ := by
  cases zs with
  | nil => simp at h0
  | cons x r => obtain ⟨b, o, e, _⟩ := h.at_ (j := 0) (u := .int k x) rfl; exact ⟨b, o, e⟩
end Go.Proofs.YtkafmpdjpjgkgaaDoor.Mm
