/- DERIVED. Contracts of the program's pieces and of the function that it hands back. By an AI agent. -/
import Derived.RangeFuncNested
import Derived.RangeFuncBound
import Derived.RangeFuncCalls
import Derived.RangeFuncLeaves
import Derived.RangeFuncBox
import Derived.Shelf.Abstract
import Derived.Shelf.RegionOpen
import Derived.WalkKit
import Derived.OwnWalkIn
import Derived.TacticsInMore
import Derived.LoopNIn
import Derived.LoopIn
import Derived.Test.YtgcmbleinobneaaIpWords
namespace Go.Proofs.Ytgcmbleinobneaa.Ip
open Go.ChangeShapes Go.WideShapes Go.ChangeAt Go.RowKit Go.Shelf Args ImRef
set_option linter.unusedVariables false
attribute [local go_sem] Oper.semAt_some
/-- Piece j of L values from (b, o) on: a slice without room behind. -/
def pc (b o L sz j : Nat) : Value := .slice (some ⟨b, o + j * sz, none⟩) (min sz (L - j * sz)) (min sz (L - j * sz))
/-- How many pieces. -/
def cnt (L sz : Nat) : Nat := (L + (sz - 1)) / sz
theorem cnt_lt (L sz k : Nat) (hs : 0 < sz) : k < cnt L sz ↔ k * sz < L := by
  unfold cnt
  rw [Nat.lt_div_iff_mul_lt hs]
  omega
/-- What a round keeps: the cell of the pieces' size. -/
def KC (Bs : Nat) (W W' : World) : Prop := W'.cell? ⟨Bs, 0, none⟩ = W.cell? ⟨Bs, 0, none⟩
theorem kc_t {Bs : Nat} {A B C : World} (h : KC Bs A B) (k : KC Bs B C) : KC Bs A C := k.trans h
theorem kc_b {Bs : Nat} {w : World} (hn : Bs < w.heap.size) (W : World) (l : Nat) (o o' : Obj) (hl : w.heap.size ≤ l) (h : W.heap[l]? = some o) (_ : o.isCells = false) (_ : o.isWalk = false) : KC Bs W (W.putObj l o') :=
  World.cell?_of_block ((grownBy_putObj' W l o').block Bs (by have := (Array.getElem?_eq_some_iff.1 h).1; omega) (fun e => by cases e; omega))
set_option maxRecDepth 100000 in
set_option maxHeartbeats 2000000 in
theorem pieces1_in (F : Fence) (n : Nat) (h40 : F.fn 40) (hro : F.round = none) (hn : 1 ≤ n) (l Bb Bs b o L cap sz : Nat) (A : Option Addr) (hs : 0 < sz) (hs4 : sz ≤ 4) (hA : 0 < L → A = some ⟨b, o, none⟩) (hLc : L ≤ cap) (hcm : cap ≤ 9223372036854775807) (J Jx : List Nat → World → Prop)
    (hY : ∀ pre x W, J pre W → pre.length < cnt L sz → YieldAt F (n - 1) Try.prog l #[pc b o L sz x] W fun e W' =>
      (e = .returned (.bool true) ∧ J (pre ++ [x]) W' ∧ KC Bs W W') ∨ (e = .returned (.bool false) ∧ Jx (pre ++ [x]) W'))
    (W : World) (hBb : W.cell? ⟨Bb, 0, none⟩ = some (.slice A L cap)) (hBs : W.cell? ⟨Bs, 0, none⟩ = some (.int .i64 sz)) (h0 : J [] W) :
    CallsIn F n Try.prog 40 #[.func (.yield l) #[] #[], .pointer (some ⟨Bb, 0, none⟩), .pointer (some ⟨Bs, 0, none⟩)] W fun e W' => (∃ v, e = .returned v) ∧
      ((∃ ys, ys = List.range (cnt L sz) ∧ J ys W') ∨ (∃ pre, (∃ k, k ≤ cnt L sz ∧ pre = List.range k) ∧ Jx pre W')) := by
  refine callsIn_of_wp Try.func40 rfl h40 ?_ hro
  simp only [Try.ntmps40, List.size_toArray, List.length_cons, List.length_nil, Nat.reduceAdd, Nat.reduceSub, Array.replicate_succ, Array.replicate_zero, List.push_toArray, List.append_toArray, List.nil_append, List.cons_append]
  gi_wp2
  gi_loopw [4] (fun vr wr => ∃ (k R c : Nat) (A' : Option Addr), vr = .slice A' R c ∧ R ≤ c ∧ c ≤ 9223372036854775807 ∧ Hid (R = L - k * sz ∧ (0 < R → A' = some ⟨b, o + k * sz, none⟩) ∧ k ≤ cnt L sz ∧ J (List.range k) wr ∧ KC Bs W wr))
    (fun vr _ => match vr with | .slice _ R _ => R | _ => 0)
  case atStart => exact ⟨0, L, cap, A, rfl, hLc, hcm, Lib.hid ⟨by simp, fun h => by simpa using hA h, Nat.zero_le _, h0, rfl⟩⟩
  case round =>
    obtain ⟨k, R, c, A', rfl, hRc, hc63, HH⟩ := hrel
    by_cases hlt : 0 < R
    · have hA' := HH.out.2.1 hlt
      subst hA'
      have hkc : k < cnt L sz := (cnt_lt L sz k hs).2 (by have := HH.out.1; omega)
      have hcs : wr.cell? ⟨Bs, 0, none⟩ = some (.int .i64 sz) := HH.out.2.2.2.2.trans hBs
      obtain ⟨fn, tmps, assign, body, hy, hR⟩ := hY _ k wr HH.out.2.2.2.1 (by rw [List.length_range]; exact hkc)
      unfold pc at hy
      rw [← HH.out.1] at hy
      have HS := Lib.hid (List.range_succ (n := k))
      have HKC := Lib.hid hkc
      by_cases hsr : sz ≤ R
      · rw [Nat.min_eq_left hsr] at hy
        by_cases hcz : c = sz
        · have hRs : R = sz := by omega
          have HRS := Lib.hid hRs
          subst hcz
          subst hRs
          gi_wp2
          refine hR.mono ?_
          rintro e W3 (⟨rfl, hJ3, hk3⟩ | ⟨rfl, hJx3⟩)
          · gi_wp2
            go_roundw
            case rel =>
              refine ⟨k + 1, _, _, _, rfl, by omega, by omega, Lib.hid ⟨?_, fun h => absurd h (by omega), HKC.out, by rw [HS.out]; exact hJ3, kc_t HH.out.2.2.2.2 hk3⟩⟩
              have := HH.out.1
              rw [Nat.add_mul]
              omega
            case measure => simp; omega
          · gi_wp2
            refine bodyPost_ret (results_none rfl _ _ _) rfl ?_
            exact ⟨⟨_, rfl⟩, .inr ⟨_, ⟨k + 1, HKC.out, HS.out.symm⟩, hJx3⟩⟩
        · gi_wp2
          refine hR.mono ?_
          rintro e W3 (⟨rfl, hJ3, hk3⟩ | ⟨rfl, hJx3⟩)
          · gi_wp2
            go_roundw
            case rel =>
              refine ⟨k + 1, _, _, _, rfl, by omega, by omega, Lib.hid ⟨?_, fun h => by rw [Nat.add_mul]; simp [Nat.add_assoc], HKC.out, by rw [HS.out]; exact hJ3, kc_t HH.out.2.2.2.2 hk3⟩⟩
              have := HH.out.1
              rw [Nat.add_mul]
              omega
            case measure => simp; omega
          · gi_wp2
            refine bodyPost_ret (results_none rfl _ _ _) rfl ?_
            exact ⟨⟨_, rfl⟩, .inr ⟨_, ⟨k + 1, HKC.out, HS.out.symm⟩, hJx3⟩⟩
      · rw [Nat.min_eq_right (by omega)] at hy
        by_cases hcz : c = R
        · subst hcz
          gi_wp2
          refine hR.mono ?_
          rintro e W3 (⟨rfl, hJ3, hk3⟩ | ⟨rfl, hJx3⟩)
          · gi_wp2
            go_roundw
            case rel =>
              refine ⟨k + 1, _, _, _, rfl, by omega, by omega, Lib.hid ⟨?_, fun h => absurd h (by omega), HKC.out, by rw [HS.out]; exact hJ3, kc_t HH.out.2.2.2.2 hk3⟩⟩
              have := HH.out.1
              rw [Nat.add_mul]
              omega
            case measure => simp; omega
          · gi_wp2
            refine bodyPost_ret (results_none rfl _ _ _) rfl ?_
            exact ⟨⟨_, rfl⟩, .inr ⟨_, ⟨k + 1, HKC.out, HS.out.symm⟩, hJx3⟩⟩
        · gi_wp2
          refine hR.mono ?_
          rintro e W3 (⟨rfl, hJ3, hk3⟩ | ⟨rfl, hJx3⟩)
          · gi_wp2
            go_roundw
            case rel =>
              refine ⟨k + 1, _, _, _, rfl, by omega, by omega, Lib.hid ⟨?_, fun h => absurd h (by omega), HKC.out, by rw [HS.out]; exact hJ3, kc_t HH.out.2.2.2.2 hk3⟩⟩
              have := HH.out.1
              rw [Nat.add_mul]
              omega
            case measure => simp; omega
          · gi_wp2
            refine bodyPost_ret (results_none rfl _ _ _) rfl ?_
            exact ⟨⟨_, rfl⟩, .inr ⟨_, ⟨k + 1, HKC.out, HS.out.symm⟩, hJx3⟩⟩
    · have hk2 : k = cnt L sz := by
        have h1 := HH.out.2.2.1
        have h2 := HH.out.1
        rcases Nat.lt_or_ge k (cnt L sz) with h | h
        · have := (cnt_lt L sz k hs).1 h; omega
        · omega
      have HK := Lib.hid hk2
      have hr0 : R = 0 := by omega
      subst hr0
      clear hk2 hlt
      gi_wp2
      go_end0
      exact ⟨⟨_, rfl⟩, .inl ⟨_, by rw [HK.out], HH.out.2.2.2.1⟩⟩
set_option maxHeartbeats 1000000 in
theorem pieces_in (F : Fence) (n : Nat) (h35 : F.fn 35) (hro : F.round = none) (A : Option Addr) (L cap : Nat) (sz : Int) (w : World) :
    CallsIn F n Try.prog 35 #[.slice A L cap, .int .i64 sz] w fun e w' => e = .returned (.func (.func 40) #[] #[.pointer (some ⟨w.heap.size, 0, none⟩), .pointer (some ⟨w.heap.size + 1, 0, none⟩)]) ∧ w' = (w.alloc (.cells #[.slice A L cap] 28)).alloc (.cells #[.int .i64 sz] 3) := by
  refine callsIn_of_wp Try.func35 rfl h35 ?_ hro
  simp only [Try.ntmps35, List.size_toArray, List.length_cons, List.length_nil, Nat.reduceAdd, Nat.reduceSub, Array.replicate_succ, Array.replicate_zero, List.push_toArray, List.append_toArray, List.nil_append, List.cons_append]
  gi_wp2
  go_ret
  exact ⟨rfl, rfl⟩
theorem pieces_stops (F : Fence) (n : Nat) (h40 : F.fn 40) (hro : F.round = none) (hn : 1 ≤ n) (Bb Bs b o L cap sz : Nat) (A : Option Addr) (hs : 0 < sz) (hs4 : sz ≤ 4) (hA : 0 < L → A = some ⟨b, o, none⟩) (hLc : L ≤ cap) (hcm : cap ≤ 9223372036854775807) (w : World) (hBb : Bb < w.heap.size) (hBs : Bs < w.heap.size)
    (hcb : w.cell? ⟨Bb, 0, none⟩ = some (.slice A L cap)) (hcs : w.cell? ⟨Bs, 0, none⟩ = some (.int .i64 sz)) :
    SeqStopsK F n Try.prog 40 #[.pointer (some ⟨Bb, 0, none⟩), .pointer (some ⟨Bs, 0, none⟩)] (fun x : Nat => #[pc b o L sz x]) (KC Bs) (fun ys => ys = List.range (cnt L sz)) (fun pre => ∃ k, k ≤ cnt L sz ∧ pre = List.range k) (cnt L sz) w := fun l J Jx W hW _ _ hY h0 => by
  exact pieces1_in F n h40 hro hn l Bb Bs b o L cap sz A hs hs4 hA hLc hcm J Jx hY W ((hW.cell (p := ⟨Bb, 0, none⟩) hBb).trans hcb) ((hW.cell (p := ⟨Bs, 0, none⟩) hBs).trans hcs) h0
end Go.Proofs.Ytgcmbleinobneaa.Ip
