/- DERIVED. The contracts of the program's rising, Writes and Reads. By an AI agent. -/
import Derived.Test.YtckdffcfemekcaaDoorTpCan2
import Derived.Test.YtckdffcfemekcaaDoorThReads
import Derived.Test.YtckdffcfemekcaaDoorShelf
import Derived.Lib.SlicesCompact
import Derived.Lib.OwnBridge
import Derived.Sort.OwnSortedInts
namespace Go.Proofs.YtckdffcfemekcaaDoor.Tp
open Go.ChangeShapes Go.WideShapes Go.ChangeAt Go.RowKit Go.Sort ThRef
set_option linter.unusedVariables false
def srt (l : List Int) : List Int := l.mergeSort fun a b => decide (a ≤ b)
theorem srt1 (x : Int) : srt [x] = [x] := by simp [srt]
theorem srt2 (x y : Int) : srt [x, y] = if x ≤ y then [x, y] else [y, x] := by
  simp [srt, List.mergeSort, List.MergeSort.Internal.splitInTwo, List.merge]
def srt3L (x y z : Int) : List Int := if x ≤ y then (if x ≤ z then (if y ≤ z then [x, y, z] else [x, z, y]) else [z, x, y]) else (if y ≤ z then (if x ≤ z then [y, x, z] else [y, z, x]) else [z, y, x])
theorem srt3 (x y z : Int) : srt [x, y, z] = srt3L x y z := by
  have hs := srt2 x y
  unfold srt at hs ⊢
  have e : ([x, y, z].mergeSort fun a b => decide (a ≤ b)) = ([x, y].mergeSort fun a b => decide (a ≤ b)).merge [z] fun a b => decide (a ≤ b) := by
    simp [List.mergeSort, List.MergeSort.Internal.splitInTwo, List.merge]
  rw [e, hs]
  by_cases h1 : x ≤ y <;> by_cases h2 : x ≤ z <;> by_cases h3 : y ≤ z <;> simp [srt3L, h1, h2, h3]
/-- What rising gives. -/
def ris (l : List Int) : List Int := Lib.compact (srt l)
theorem ris1 (x : Int) (f : Nat → Bool) (h0 : 0 ≤ x) (h7 : x ≤ 7) (hf : ∀ r : Nat, f r = decide ((r : Int) = x)) : ris [x] = fil f 8 := by
  obtain rfl : f = fun r : Nat => decide ((r : Int) = x) := funext hf
  obtain ⟨X, rfl⟩ := Int.eq_ofNat_of_zero_le h0
  have H : ∀ i : Fin 8, Lib.compact [((i.val : Nat) : Int)] = fil (fun r : Nat => decide ((r : Int) = ((i.val : Nat) : Int))) 8 := by decide +kernel
  unfold ris
  rw [srt1]
  exact H ⟨X, by omega⟩
theorem ris2 (x y : Int) (f : Nat → Bool) (h0 : 0 ≤ x) (h7 : x ≤ 7) (k0 : 0 ≤ y) (k7 : y ≤ 7) (hf : ∀ r : Nat, f r = (decide ((r : Int) = x) || decide ((r : Int) = y))) : ris [x, y] = fil f 8 := by
  obtain rfl : f = fun r : Nat => (decide ((r : Int) = x) || decide ((r : Int) = y)) := funext hf
  obtain ⟨X, rfl⟩ := Int.eq_ofNat_of_zero_le h0
  obtain ⟨Y, rfl⟩ := Int.eq_ofNat_of_zero_le k0
  have H : ∀ i j : Fin 8, Lib.compact (if ((i.val : Nat) : Int) ≤ ((j.val : Nat) : Int) then [((i.val : Nat) : Int), ((j.val : Nat) : Int)] else [((j.val : Nat) : Int), ((i.val : Nat) : Int)]) = fil (fun r : Nat => decide ((r : Int) = ((i.val : Nat) : Int)) || decide ((r : Int) = ((j.val : Nat) : Int))) 8 := by decide +kernel
  unfold ris
  rw [srt2]
  exact H ⟨X, by omega⟩ ⟨Y, by omega⟩
theorem ris3 (x y z : Int) (f : Nat → Bool) (h0 : 0 ≤ x) (h7 : x ≤ 7) (k0 : 0 ≤ y) (k7 : y ≤ 7) (l0 : 0 ≤ z) (l7 : z ≤ 7) (hf : ∀ r : Nat, f r = (decide ((r : Int) = x) || decide ((r : Int) = y) || decide ((r : Int) = z))) : ris [x, y, z] = fil f 8 := by
  obtain rfl : f = fun r : Nat => (decide ((r : Int) = x) || decide ((r : Int) = y) || decide ((r : Int) = z)) := funext hf
  obtain ⟨X, rfl⟩ := Int.eq_ofNat_of_zero_le h0
  obtain ⟨Y, rfl⟩ := Int.eq_ofNat_of_zero_le k0
  obtain ⟨Z, rfl⟩ := Int.eq_ofNat_of_zero_le l0
  have H : ∀ i j k : Fin 8, Lib.compact (srt3L ((i.val : Nat) : Int) ((j.val : Nat) : Int) ((k.val : Nat) : Int)) = fil (fun r : Nat => decide ((r : Int) = ((i.val : Nat) : Int)) || decide ((r : Int) = ((j.val : Nat) : Int)) || decide ((r : Int) = ((k.val : Nat) : Int))) 8 := by decide +kernel
  unfold ris
  rw [srt3]
  exact H ⟨X, by omega⟩ ⟨Y, by omega⟩ ⟨Z, by omega⟩
set_option maxHeartbeats 1000000 in
theorem rising (b : Nat) (zs : List Int) (w : World) (hH : Sort.Holds (Value.int .i64) w b 0 zs.toArray) (hb : b < w.heap.size) (hsz : zs.length ≤ 3) :
    Calls Tryd.prog 28 #[.slice (some ⟨b, 0, none⟩) zs.length zs.length] w fun e w' => ∃ cap, e = .returned (.slice (some ⟨b, 0, none⟩) (ris zs).length cap) ∧ Reads64 w' (some ⟨b, 0, none⟩) (ris zs) ∧ ∀ B w0, B ≤ b → Below B w0 w → Below B w0 w' := by
  have hl : (srt zs).length = zs.length := by unfold srt; exact List.length_mergeSort _
  have HH := Lib.hid hH; have HL := Lib.hid hl
  clear hH hl
  go_enter Tryd.func28, Tryd.ntmps28
  go_wp2_with fail
  refine (Tryd.slices_Sort_int b 0 zs.length zs _ HH.out hb (by omega)).mono ?_
  rintro e w1 ⟨rfl, n, os, hw1⟩
  have hH1 : Sort.Holds (Value.int .i64) w1 b 0 (srt zs).toArray := by
    rw [hw1]
    refine Sort.holds_grow _ _ _ _ _ _ (by simpa [Sort.ahead] using hb) ?_
    exact Sort.holds_putRow _ _ _ _ zs.toArray _ (Sort.holds_ahead _ _ _ _ _ _ HH.out) (by simp)
  have hbel : ∀ B w0, B ≤ b → Below B w0 w → Below B w0 w1 := fun B w0 hB h => by
    rw [hw1]
    exact h.grown (grownBy_sortedI _) (by omega) (fun q hq => by have : b = q := Option.some.inj hq; omega)
  have HH1 := Lib.hid hH1; have HBEL := Lib.hid hbel
  clear hH1 hbel hw1
  go_wp2_with fail
  rw [← HL.out]
  refine (Tryd.slices_Compact_int b 0 (srt zs).length (srt zs) _ HH1.out (by have := HL.out; omega) (Nat.le_refl _)).mono ?_
  rintro e w2 ⟨rfl, q, hw2⟩
  have hcl : (Lib.compact (srt zs)).length ≤ (srt zs).length := by
    unfold Lib.compact Lib.compactUpTo
    rw [List.length_map]
    exact Nat.le_trans (List.length_filter_le _ _) (by simp)
  have hfin : Reads64 w2 (some ⟨b, 0, none⟩) (ris zs) ∧ ∀ B w0, B ≤ b → Below B w0 w → Below B w0 w2 := by
    rw [hw2]
    refine ⟨.inr ⟨b, 0, rfl, fun i hi => ?_⟩, fun B w0 hB h => Lib.below_putRow (HBEL.out B w0 hB h) hB⟩
    have hi' : i < (Lib.compact (srt zs)).length := hi
    rw [Sort.cell?_putRow _ _ _ _ (srt zs).toArray _ (Sort.holds_ahead _ _ _ _ _ _ HH1.out) (by simp; omega) i (by simp; omega)]
    have e : (Lib.compact (srt zs) ++ List.replicate ((srt zs).length - (Lib.compact (srt zs)).length) 0).toArray[i]! = (Lib.compact (srt zs))[i]?.getD 0 := by
      simp [List.getElem?_append_left hi']
    rw [e]; rfl
  have HF := Lib.hid hfin
  clear hfin hw2 hcl
  go_wp2_with fail
  go_ret
  exact ⟨_, rfl, HF.out⟩
end Go.Proofs.YtckdffcfemekcaaDoor.Tp
