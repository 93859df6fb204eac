/- DERIVED. Contracts of the reference's cells, Can. By an AI agent. -/
import Derived.Test.YtgcmbleinobneaaMan
import Derived.WalkKit
import Derived.RegionTactic
import Derived.ProofKit
import Derived.Deep.QuietTactic
import Derived.BigQuiet
import Derived.Outline
import Derived.Lib.Hide
import Derived.OwnWalk
import Derived.WalkSmall
import Derived.WalkSpells
namespace Go.Proofs.Ytgcmbleinobneaa.ImRef
open Go.ChangeShapes Go.WideShapes Go.ChangeAt Go.RowKit Args
set_option linter.unusedVariables false
def okC (c : TI) : Bool := decide (1 ≤ c.s.size) && decide (c.s.size ≤ 32) && decide (0 ≤ c.n) && decide (c.n ≤ 16000)
def cellsB (l : List TI) : Bool := l.all okC && decide (l.length ≤ 64)
theorem all_take (l : List TI) (k : Nat) (h : k < l.length) : (l.take (k + 1)).all okC = ((l.take k).all okC && okC (l[k]'h)) := by
  rw [List.take_succ_eq_append_getElem h, List.all_append]; simp
set_option maxHeartbeats 2000000 in
theorem cells (A : Option Addr) (cap : Nat) (l : List TI) (w : World) (hR : Lies w A (l.flatMap TI.cells)) (hl : l.length ≤ 140737488351232) (hs : ∀ c ∈ l, c.s.size ≤ 140737488351232) :
    Calls Try.prog 26 #[.slice A l.length cap] w fun e w' => e = .returned (.bool (cellsB l)) ∧ Below w.heap.size w w' := by
  have HR := Lib.hid hR; have HS := Lib.hid hs
  clear hR hs
  go_enter Try.func26, Try.ntmps26
  go_wp2_with fail
  go_loopw [3] (fun vi wr => ∃ k : Nat, k ≤ l.length ∧ vi = .int .i64 k ∧ Hid (Below w.heap.size w wr ∧ (l.take k).all okC = true)) (fun vi _ => l.length - (intOf vi).toNat)
  case atStart => exact ⟨0, by omega, rfl, Lib.hid ⟨Below.refl _ _, rfl⟩⟩
  case round =>
    obtain ⟨k, hk, rfl, HH⟩ := hrel
    by_cases hlt : k < l.length
    · have hc : l[k]? = some (l[k]'hlt) := List.getElem?_eq_getElem hlt
      have hat := all_take l k hlt
      rw [HH.out.2, Bool.true_and] at hat
      have hsz := HS.out _ (List.getElem_mem hlt)
      have hfin : okC (l[k]'hlt) = false → cellsB l = false := fun h => by
        unfold cellsB
        rw [← List.take_append_drop (k + 1) l, List.all_append, all_take l k hlt, h]
        simp
      generalize l[k]'hlt = c at hc hat hsz hfin
      obtain ⟨f1, f2⟩ := flat2 l k c hc
      obtain ⟨b, o, rfl, hb, hcell⟩ := (HR.out.below HH.out.1).at_ f1
      have c1 := hcell _ _ f1
      have c2 : wr.cell? ⟨b, o + k * 2 + 1, none⟩ = some (.int .i64 c.n) := by rw [Nat.add_assoc]; exact hcell _ _ f2
      have HC := Lib.hid hat; have HF := Lib.hid hfin
      clear hc hat hfin f1 f2 hcell
      by_cases b1 : c.s.size < 1
      · have HN := Lib.hid (HF.out (by unfold okC; rw [decide_eq_false (show ¬ 1 ≤ c.s.size by omega)]; rfl))
        go_wp2_with fail
        go_ret
        exact ⟨by rw [HN.out]; rfl, HH.out.1.alloc HH.out.1.size _⟩
      by_cases b2 : 32 < c.s.size
      · have HN := Lib.hid (HF.out (by unfold okC; rw [decide_eq_false (show ¬ c.s.size ≤ 32 by omega)]; simp))
        go_wp2_with fail
        go_ret
        exact ⟨by rw [HN.out]; rfl, HH.out.1.alloc HH.out.1.size _⟩
      by_cases b3 : c.n < 0
      · have HN := Lib.hid (HF.out (by unfold okC; rw [decide_eq_false (show ¬ 0 ≤ c.n by omega)]; simp))
        go_wp2_with fail
        go_ret
        exact ⟨by rw [HN.out]; rfl, HH.out.1.alloc HH.out.1.size _⟩
      by_cases b4 : 16000 < c.n
      · have HN := Lib.hid (HF.out (by unfold okC; rw [decide_eq_false (show ¬ c.n ≤ 16000 by omega)]; simp))
        go_wp2_with fail
        go_ret
        exact ⟨by rw [HN.out]; rfl, HH.out.1.alloc HH.out.1.size _⟩
      have HY := Lib.hid (HC.out.trans (show okC c = true by unfold okC; rw [decide_eq_true (show 1 ≤ c.s.size by omega), decide_eq_true (show c.s.size ≤ 32 by omega), decide_eq_true (show 0 ≤ c.n by omega), decide_eq_true (show c.n ≤ 16000 by omega)]; rfl))
      have d1 : 1 ≤ c.s.size := by omega
      have d2 : c.s.size ≤ 32 := by omega
      have d3 : 0 ≤ c.n := by omega
      have d4 : c.n ≤ 16000 := by omega
      clear b1 b2 b3 b4 hsz
      go_wp2_with fail
      go_roundw
      case rel => exact ⟨k + 1, by omega, by go_num, Lib.hid ⟨HH.out.1.alloc HH.out.1.size _, HY.out⟩⟩
      case measure => simp [intOf]; omega
    · have hk2 : k = l.length := by omega
      have hfin : cellsB l = decide (l.length ≤ 64) := by
        have h := HH.out.2
        rw [List.take_of_length_le (by omega)] at h
        unfold cellsB; rw [h]; rfl
      have HF := Lib.hid hfin
      clear hfin
      by_cases h64 : l.length ≤ 64
      all_goals
        go_wp2_with fail
        go_ret
        refine ⟨?_, HH.out.1⟩
        rw [HF.out]
        simp [h64]
        omega
def numsB (m : Man) : Bool := decide (0 ≤ m.o) && decide (m.o ≤ 2147483647) && decide (0 ≤ m.s) && decide (m.s ≤ 2147483647) && decide (0 ≤ m.r) && decide (m.r ≤ 2147483647) && decide (0 ≤ m.w) && decide (m.w ≤ 16000)
def canM (m : Man) : Bool := numsB m && cellsB m.se && cellsB m.pu && cellsB m.ou
abbrev man (m : Man) (A4 A5 A6 : Option Addr) (c4 c5 c6 : Nat) : Value := .agg #[.int .i64 m.o, .int .i64 m.s, .int .i64 m.r, .int .i64 m.w, .slice A4 m.se.length c4, .slice A5 m.pu.length c5, .slice A6 m.ou.length c6]
/-- What a list of cells wants of the world. -/
def Cs (w : World) (A : Option Addr) (l : List TI) : Prop := Lies w A (l.flatMap TI.cells) ∧ l.length ≤ 140737488351232 ∧ ∀ c ∈ l, c.s.size ≤ 140737488351232
theorem Cs.below {w w' : World} {A : Option Addr} {l : List TI} (h : Cs w A l) (hb : Below w.heap.size w w') : Cs w' A l := ⟨h.1.below hb, h.2⟩
theorem TIs.cs {w : World} {v : Value} {l : List TI} (h : TIs w v l) : ∃ A cap, v = .slice A l.length cap ∧ Cs w A l := by
  obtain ⟨A, cap, rfl, _, _, hl⟩ := h.ex
  exact ⟨A, cap, rfl, hl, by have := h.reach; omega, h.size⟩
set_option maxRecDepth 100000 in
set_option maxHeartbeats 4000000 in
theorem can (m : Man) (A4 A5 A6 : Option Addr) (c4 c5 c6 : Nat) (w : World) (h4 : Cs w A4 m.se) (h5 : Cs w A5 m.pu) (h6 : Cs w A6 m.ou) :
    Calls Try.prog 13 #[man m A4 A5 A6 c4 c5 c6] w fun e w' => e = .returned (.bool (canM m)) ∧ Below w.heap.size w w' := by
  have H4 := Lib.hid h4; have H5 := Lib.hid h5; have H6 := Lib.hid h6
  clear h4 h5 h6
  by_cases bo : m.o < 0
  · have hn : canM m = false := by
      unfold canM numsB
      rw [decide_eq_false (show ¬ 0 ≤ m.o by omega)]
      simp
    have HN := Lib.hid hn
    clear hn
    go_enter Try.func13, Try.ntmps13
    go_wp2_with fail
    go_ret
    exact ⟨by rw [HN.out]; rfl, (Below.refl _ _).alloc (Nat.le_refl _) _⟩
  by_cases bo2 : 2147483647 < m.o
  · have hn : canM m = false := by
      unfold canM numsB
      rw [decide_eq_false (show ¬ m.o ≤ 2147483647 by omega)]
      simp
    have HN := Lib.hid hn
    clear hn
    go_enter Try.func13, Try.ntmps13
    go_wp2_with fail
    go_ret
    exact ⟨by rw [HN.out]; rfl, (Below.refl _ _).alloc (Nat.le_refl _) _⟩
  by_cases bs : m.s < 0
  · have hn : canM m = false := by
      unfold canM numsB
      rw [decide_eq_false (show ¬ 0 ≤ m.s by omega)]
      simp
    have HN := Lib.hid hn
    clear hn
    go_enter Try.func13, Try.ntmps13
    go_wp2_with fail
    go_ret
    exact ⟨by rw [HN.out]; rfl, (Below.refl _ _).alloc (Nat.le_refl _) _⟩
  by_cases bs2 : 2147483647 < m.s
  · have hn : canM m = false := by
      unfold canM numsB
      rw [decide_eq_false (show ¬ m.s ≤ 2147483647 by omega)]
      simp
    have HN := Lib.hid hn
    clear hn
    go_enter Try.func13, Try.ntmps13
    go_wp2_with fail
    go_ret
    exact ⟨by rw [HN.out]; rfl, (Below.refl _ _).alloc (Nat.le_refl _) _⟩
  by_cases br : m.r < 0
  · have hn : canM m = false := by
      unfold canM numsB
      rw [decide_eq_false (show ¬ 0 ≤ m.r by omega)]
      simp
    have HN := Lib.hid hn
    clear hn
    go_enter Try.func13, Try.ntmps13
    go_wp2_with fail
    go_ret
    exact ⟨by rw [HN.out]; rfl, (Below.refl _ _).alloc (Nat.le_refl _) _⟩
  by_cases br2 : 2147483647 < m.r
  · have hn : canM m = false := by
      unfold canM numsB
      rw [decide_eq_false (show ¬ m.r ≤ 2147483647 by omega)]
      simp
    have HN := Lib.hid hn
    clear hn
    go_enter Try.func13, Try.ntmps13
    go_wp2_with fail
    go_ret
    exact ⟨by rw [HN.out]; rfl, (Below.refl _ _).alloc (Nat.le_refl _) _⟩
  by_cases bw : m.w < 0
  · have hn : canM m = false := by
      unfold canM numsB
      rw [decide_eq_false (show ¬ 0 ≤ m.w by omega)]
      simp
    have HN := Lib.hid hn
    clear hn
    go_enter Try.func13, Try.ntmps13
    go_wp2_with fail
    go_ret
    exact ⟨by rw [HN.out]; rfl, (Below.refl _ _).alloc (Nat.le_refl _) _⟩
  by_cases bw2 : 16000 < m.w
  · have hn : canM m = false := by
      unfold canM numsB
      rw [decide_eq_false (show ¬ m.w ≤ 16000 by omega)]
      simp
    have HN := Lib.hid hn
    clear hn
    go_enter Try.func13, Try.ntmps13
    go_wp2_with fail
    go_ret
    exact ⟨by rw [HN.out]; rfl, (Below.refl _ _).alloc (Nat.le_refl _) _⟩
  have hn : numsB m = true := by
    unfold numsB
    simp only [Bool.and_eq_true, decide_eq_true_eq]
    omega
  have d1 : 0 ≤ m.o := by omega
  have d2 : m.o ≤ 2147483647 := by omega
  have d3 : 0 ≤ m.s := by omega
  have d4 : m.s ≤ 2147483647 := by omega
  have d5 : 0 ≤ m.r := by omega
  have d6 : m.r ≤ 2147483647 := by omega
  have d7 : 0 ≤ m.w := by omega
  have d8 : m.w ≤ 16000 := by omega
  have hm : canM m = (cellsB m.se && cellsB m.pu && cellsB m.ou) := by unfold canM; rw [hn]; rfl
  have HM := Lib.hid hm
  clear bo bo2 bs bs2 br br2 bw bw2 hn hm
  have h4 := fun W h => cells A4 c4 m.se W h H4.out.2.1 H4.out.2.2
  have h5 := fun W h => cells A5 c5 m.pu W h H5.out.2.1 H5.out.2.2
  have h6 := fun W h => cells A6 c6 m.ou W h H6.out.2.1 H6.out.2.2
  generalize cellsB m.se = e4 at h4 HM
  generalize cellsB m.pu = e5 at h5 HM
  generalize cellsB m.ou = e6 at h6 HM
  have HC4 := Lib.hid h4; have HC5 := Lib.hid h5; have HC6 := Lib.hid h6
  clear h4 h5 h6
  go_enter Try.func13, Try.ntmps13
  go_wp2_with fail
  refine (HC4.out _ (H4.out.below ((Below.refl _ _).alloc (Nat.le_refl _) _)).1).mono ?_
  rintro e w1 ⟨rfl, hb1⟩
  have hbw : Below w.heap.size w w1 := ((Below.refl _ _).alloc (Nat.le_refl _) _).trans (hb1.mono (by simp))
  have hz : w.heap.size < w1.heap.size := by have := hb1.size; simp at this; exact this
  have q5 : w1.cell? ⟨w.heap.size, 5, none⟩ = some (.slice A5 m.pu.length c5) := (hb1.cell (p := ⟨_, _, _⟩) (by simp)).trans (World.cell?_alloc_at _ _ _ _ rfl)
  have q6 : w1.cell? ⟨w.heap.size, 6, none⟩ = some (.slice A6 m.ou.length c6) := (hb1.cell (p := ⟨_, _, _⟩) (by simp)).trans (World.cell?_alloc_at _ _ _ _ rfl)
  have HB := Lib.hid hbw
  clear hb1 hbw
  cases e4
  · clear q5 q6
    go_wp2_with fail
    go_ret
    exact ⟨by rw [HM.out]; rfl, HB.out⟩
  · go_wp2_with fail
    refine (HC5.out _ (H5.out.below HB.out).1).mono ?_
    rintro e w2 ⟨rfl, hb2⟩
    have p6 := (hb2.cell (p := ⟨w.heap.size, 6, none⟩) hz).trans q6
    have HB2 := Lib.hid (HB.out.trans (hb2.mono HB.out.size))
    clear hb2 q5 q6
    cases e5
    · clear p6
      go_wp2_with fail
      go_ret
      exact ⟨by rw [HM.out]; rfl, HB2.out⟩
    · go_wp2_with fail
      refine (HC6.out _ (H6.out.below HB2.out).1).mono ?_
      rintro e w3 ⟨rfl, hb3⟩
      clear p6
      go_wp2_with fail
      go_ret
      exact ⟨by rw [HM.out]; cases e6 <;> rfl, HB2.out.trans (hb3.mono HB2.out.size)⟩
end Go.Proofs.Ytgcmbleinobneaa.ImRef
