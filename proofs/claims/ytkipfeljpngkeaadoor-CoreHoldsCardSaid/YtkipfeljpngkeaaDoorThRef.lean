/- DERIVED. Contracts of the reference's shapes and bounds of instructions. By an AI agent. -/
import Derived.Test.YtkipfeljpngkeaaDoorRows
import Derived.WalkKit
import Derived.RegionTactic
import Derived.ProofKit
import Derived.Deep.QuietTactic
import Derived.BigQuiet
import Derived.Outline
import Derived.Lib.Hide
import Derived.OwnWalk
import Derived.WalkSmall
namespace Go.Proofs.YtkipfeljpngkeaaDoor.ThRef
open Go.ChangeShapes Go.WideShapes Go.ChangeAt Go.RowKit
set_option linter.unusedVariables false
def shapes : List ByteArray := [
  ⟨#[48, 48, 49, 48, 48, 100, 100, 100, 105, 105, 105, 105, 105, 105, 105, 105]⟩,
  ⟨#[48, 48, 49, 48, 49, 100, 100, 100, 105, 105, 105, 105, 105, 105, 105, 105]⟩,
  ⟨#[48, 48, 49, 49, 48, 100, 100, 100, 105, 105, 105, 105, 105, 105, 105, 105]⟩,
  ⟨#[48, 48, 49, 49, 49, 100, 100, 100, 105, 105, 105, 105, 105, 105, 105, 105]⟩,
  ⟨#[48, 48, 48, 48, 48, 105, 105, 105, 105, 105, 109, 109, 109, 100, 100, 100]⟩,
  ⟨#[48, 48, 48, 48, 49, 105, 105, 105, 105, 105, 109, 109, 109, 100, 100, 100]⟩,
  ⟨#[48, 48, 48, 49, 48, 105, 105, 105, 105, 105, 109, 109, 109, 100, 100, 100]⟩,
  ⟨#[48, 48, 48, 49, 49, 48, 48, 109, 109, 109, 110, 110, 110, 100, 100, 100]⟩,
  ⟨#[48, 48, 48, 49, 49, 48, 49, 109, 109, 109, 110, 110, 110, 100, 100, 100]⟩,
  ⟨#[48, 48, 48, 49, 49, 49, 48, 105, 105, 105, 110, 110, 110, 100, 100, 100]⟩,
  ⟨#[48, 48, 48, 49, 49, 49, 49, 105, 105, 105, 110, 110, 110, 100, 100, 100]⟩,
  ⟨#[48, 49, 48, 48, 48, 48, 105, 105, 105, 105, 109, 109, 109, 100, 100, 100]⟩,
  ⟨#[48, 49, 49, 48, 49, 105, 105, 105, 105, 105, 110, 110, 110, 100, 100, 100]⟩,
  ⟨#[48, 49, 49, 48, 48, 105, 105, 105, 105, 105, 110, 110, 110, 100, 100, 100]⟩,
  ⟨#[48, 49, 48, 49, 49, 48, 48, 109, 109, 109, 110, 110, 110, 100, 100, 100]⟩,
  ⟨#[48, 49, 48, 49, 48, 48, 48, 109, 109, 109, 110, 110, 110, 100, 100, 100]⟩,
  ⟨#[48, 49, 48, 48, 49, 100, 100, 100, 105, 105, 105, 105, 105, 105, 105, 105]⟩,
  ⟨#[49, 49, 49, 48, 48, 105, 105, 105, 105, 105, 105, 105, 105, 105, 105, 105]⟩,
  ⟨#[49, 49, 48, 49, 99, 99, 99, 99, 105, 105, 105, 105, 105, 105, 105, 105]⟩,
  ⟨#[49, 48, 49, 49, 49, 49, 49, 49, 48, 48, 48, 48, 48, 48, 48, 48]⟩,
  ⟨#[49, 48, 49, 49, 49, 49, 49, 48, 105, 105, 105, 105, 105, 105, 105, 105]⟩]
def lows : List Int := [0, 0, 0, 0, 0, 1, 1, 0, 0, 0, 0, 0, 0, 0, 0, 0, 0, -1024, -128, 0, 0]
def highs : List Int := [255, 255, 255, 255, 31, 32, 32, 0, 0, 7, 7, 15, 31, 31, 0, 0, 255, 1023, 127, 0, 255]
def lowN (op : Nat) : Int := lows[op]?.getD 0
def highN (op : Nat) : Int := highs[op]?.getD 0
def shapeN (op : Nat) : ByteArray := shapes[op]?.getD ⟨#[]⟩
theorem pick {α : Type} (l : List α) (f : α → Value) (i : Nat) (d : α) (h : i < (l.map f).length) : (l.map f)[i]'h = f (l[i]?.getD d) := by
  rw [List.getElem_map, List.getElem?_eq_getElem (by simpa using h)]; rfl
theorem low (op : Nat) (h : op < 21) (w : World) : Calls Tryd.prog 46 #[.int .i64 op] w fun e w' => e = .returned (.int .i64 (lowN op)) ∧ Below w.heap.size w w' := by
  go_enter Tryd.func46, Tryd.ntmps46
  go_wp2
  go_ret
  refine ⟨?_, (Below.refl _ _).alloc (Nat.le_refl _) _⟩
  exact congrArg Ending.returned (pick lows (Value.int .i64) op 0 h)
theorem high (op : Nat) (h : op < 21) (w : World) : Calls Tryd.prog 47 #[.int .i64 op] w fun e w' => e = .returned (.int .i64 (highN op)) ∧ Below w.heap.size w w' := by
  go_enter Tryd.func47, Tryd.ntmps47
  go_wp2
  go_ret
  refine ⟨?_, (Below.refl _ _).alloc (Nat.le_refl _) _⟩
  exact congrArg Ending.returned (pick highs (Value.int .i64) op 0 h)
theorem shape (op : Nat) (h : op < 21) (w : World) : Calls Tryd.prog 27 #[.int .i64 op] w fun e w' => e = .returned (.string (shapeN op)) ∧ Below w.heap.size w w' := by
  go_enter Tryd.func27, Tryd.ntmps27
  go_wp2
  go_ret
  refine ⟨?_, (Below.refl _ _).alloc (Nat.le_refl _) _⟩
  exact congrArg Ending.returned (pick shapes Value.string op ⟨#[]⟩ h)
theorem idx_s (s : ByteArray) (k : Nat) (hk : k < s.size) (w : World) : (Instr.index 9 (.string s) (.int .i64 (k : Int))).run Tryd.prog w = .ok (.int .u8 ((s[k].toNat : Nat) : Int)) w := by
  rw [run_index_string w 9 s .i64 k Tryd.underlying9, dif_pos ⟨by omega, by omega⟩]
  have e : ((k : Int)).toNat = k := by omega
  simp only [e]
/-- Whether a text has a letter. -/
def hasB (s : ByteArray) (c : Nat) : Bool := s.data.toList.any fun x => x.toNat == c
theorem any_take (s : ByteArray) (c k : Nat) (hk : k < s.size) : (s.data.toList.take (k + 1)).any (fun x => x.toNat == c) = ((s.data.toList.take k).any (fun x => x.toNat == c) || (s[k].toNat == c)) := by
  rw [List.take_succ_eq_append_getElem (by simpa using hk), List.any_append]
  simp
  rfl
set_option maxHeartbeats 400000 in
theorem has (s : ByteArray) (c : Nat) (hs : s.size ≤ 64) (hc : c < 256) (w : World) : Calls Tryd.prog 45 #[.string s, .int .u8 c] w fun e w' => e = .returned (.bool (hasB s c)) ∧ w = w' := by
  go_enter Tryd.func45, Tryd.ntmps45
  go_wp2
  go_loop [5] (fun vi => ∃ k : Nat, k ≤ s.size ∧ vi = .int .i64 k ∧ Hid ((s.data.toList.take k).any (fun x => x.toNat == c) = false)) (fun vi => s.size - (intOf vi).toNat)
  case atStart => exact ⟨0, by omega, rfl, Lib.hid rfl⟩
  case round =>
    obtain ⟨k, hk, rfl, HI⟩ := hrel
    by_cases hlt : k < s.size
    · have hx := idx_s s k hlt
      have hst := any_take s c k hlt
      rw [HI.out] at hst
      generalize s[k].toNat = x at hx hst
      by_cases hxc : x = c
      · have hfin : hasB s c = true := by
          unfold hasB
          rw [← List.take_append_drop (k + 1) s.data.toList, List.any_append, hst]
          simp [hxc]
        have e1 : ((x : Int) == (c : Int)) = true := by simp [hxc]
        have HF := Lib.hid hfin
        clear hfin hst hxc
        go_wp2
        go_ret
        exact ⟨by rw [HF.out]; rfl, rfl⟩
      · have e1 : ((x : Int) == (c : Int)) = false := by simp; omega
        have hst2 : (s.data.toList.take (k + 1)).any (fun x => x.toNat == c) = false := by rw [hst]; simp [hxc]
        have HS := Lib.hid hst2
        clear hst hst2 hxc
        go_wp2
        go_round
        case rel => exact ⟨k + 1, by omega, by go_num, HS⟩
        case measure => simp [intOf]; omega
    · have hfin : hasB s c = false := by
        have h := HI.out
        rw [List.take_of_length_le (by simp; omega)] at h
        exact h
      have HF := Lib.hid hfin
      clear hfin
      go_wp2
      go_ret
      exact ⟨by rw [HF.out]; rfl, rfl⟩
end Go.Proofs.YtkipfeljpngkeaaDoor.ThRef
