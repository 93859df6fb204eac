/- DERIVED. Contracts of the program's within, canCells, Can. By an AI agent. -/
import Derived.Test.YtgcmbleinobneaaImRef
namespace Go.Proofs.Ytgcmbleinobneaa.Ip
open Go.ChangeShapes Go.WideShapes Go.ChangeAt Go.RowKit Args ImRef
set_option linter.unusedVariables false
theorem within_yes (n a b : Int) (w : World) (h1 : a ≤ n) (h2 : n ≤ b) :
    Calls Try.prog 24 #[.int .i64 n, .int .i64 a, .int .i64 b] w fun e w' => e = .returned (.bool true) ∧ w = w' := by
  go_enter Try.func24, Try.ntmps24
  go_wp2_with fail
  go_ret
  exact ⟨rfl, rfl⟩
theorem within_no (n a b : Int) (w : World) (h : n < a ∨ b < n) :
    Calls Try.prog 24 #[.int .i64 n, .int .i64 a, .int .i64 b] w fun e w' => e = .returned (.bool false) ∧ w = w' := by
  by_cases h1 : n < a
  · clear h
    go_enter Try.func24, Try.ntmps24
    go_wp2_with fail
    go_ret
    exact ⟨rfl, rfl⟩
  · have h2 : b < n := by omega
    have h3 : a ≤ n := by omega
    have h4 : decide (n ≤ b) = false := decide_eq_false (by omega)
    clear h h1
    go_enter Try.func24, Try.ntmps24
    go_wp2_with fail
    go_ret
    exact ⟨rfl, rfl⟩
set_option maxHeartbeats 2000000 in
theorem canCells (A : Option Addr) (cap : Nat) (l : List TI) (w : World) (hR : Lies w A (l.flatMap TI.cells)) (hl : l.length ≤ 140737488351232) (hs : ∀ c ∈ l, c.s.size ≤ 140737488351232) :
    Calls Try.prog 25 #[.slice A l.length cap] w fun e w' => e = .returned (.bool (cellsB l)) ∧ Below w.heap.size w w' := by
  have HR := Lib.hid hR; have HS := Lib.hid hs
  clear hR hs
  by_cases h64 : 64 < l.length
  · have hf : cellsB l = false := by unfold cellsB; rw [decide_eq_false (show ¬ l.length ≤ 64 by omega)]; simp
    have HF := Lib.hid hf
    clear hf
    go_enter Try.func25, Try.ntmps25
    go_wp2_with fail
    go_ret
    exact ⟨by rw [HF.out]; rfl, Below.refl _ _⟩
  have h65 : l.length ≤ 64 := by omega
  clear h64
  go_enter Try.func25, Try.ntmps25
  go_wp2_with fail
  go_loopw [10] (fun vi wr => ∃ k : Nat, k ≤ l.length ∧ vi = .int .i64 k ∧ Hid (Below w.heap.size w wr ∧ (l.take k).all okC = true)) (fun vi _ => l.length - (intOf vi).toNat)
  case atStart => exact ⟨0, by omega, rfl, Lib.hid ⟨Below.refl _ _, rfl⟩⟩
  case round =>
    obtain ⟨k, hk, rfl, HH⟩ := hrel
    by_cases hlt : k < l.length
    · have hc : l[k]? = some (l[k]'hlt) := List.getElem?_eq_getElem hlt
      have hat := all_take l k hlt
      rw [HH.out.2, Bool.true_and] at hat
      have hsz := HS.out _ (List.getElem_mem hlt)
      have hfin : okC (l[k]'hlt) = false → cellsB l = false := fun h => by
        unfold cellsB
        rw [← List.take_append_drop (k + 1) l, List.all_append, all_take l k hlt, h]
        simp
      generalize l[k]'hlt = c at hc hat hsz hfin
      obtain ⟨f1, f2⟩ := flat2 l k c hc
      obtain ⟨b, o, rfl, hb, hcell⟩ := (HR.out.below HH.out.1).at_ f1
      have c1 := hcell _ _ f1
      have c2 : wr.cell? ⟨b, o + k * 2 + 1, none⟩ = some (.int .i64 c.n) := by rw [Nat.add_assoc]; exact hcell _ _ f2
      have HC := Lib.hid hat; have HF := Lib.hid hfin
      clear hc hat hfin f1 f2 hcell
      by_cases b1 : c.s.size < 1 ∨ 32 < c.s.size
      · have HN := Lib.hid (HF.out (by unfold okC; rcases b1 with b1 | b1
                                       · rw [decide_eq_false (show ¬ 1 ≤ c.s.size by omega)]; rfl
                                       · rw [decide_eq_false (show ¬ c.s.size ≤ 32 by omega)]; simp))
        have b2 : (c.s.size : Int) < 1 ∨ (32 : Int) < c.s.size := by omega
        have B1 := Lib.hid b2
        clear b1 b2
        go_wp2_with (go_at_call 24; (with_reducible refine (within_no _ _ _ _ B1.out).mono ?_); rintro e w' ⟨rfl, rfl⟩)
        go_ret
        exact ⟨by rw [HN.out]; rfl, HH.out.1.alloc HH.out.1.size _⟩
      by_cases b3 : c.n < 0 ∨ 16000 < c.n
      · have HN := Lib.hid (HF.out (by unfold okC; rcases b3 with b3 | b3
                                       · rw [decide_eq_false (show ¬ 0 ≤ c.n by omega)]; simp
                                       · rw [decide_eq_false (show ¬ c.n ≤ 16000 by omega)]; simp))
        have B3 := Lib.hid b3
        have d1 : (1 : Int) ≤ c.s.size := by omega
        have d2 : (c.s.size : Int) ≤ 32 := by omega
        clear b1 b3
        go_wp2_with ((first | (go_at_call 24; (with_reducible refine (within_yes _ 1 32 _ d1 d2).mono ?_); rintro e w' ⟨rfl, rfl⟩) | (go_at_call 24; (with_reducible refine (within_no c.n 0 16000 _ B3.out).mono ?_); rintro e w' ⟨rfl, rfl⟩)))
        go_ret
        exact ⟨by rw [HN.out]; rfl, HH.out.1.alloc HH.out.1.size _⟩
      have HY := Lib.hid (HC.out.trans (show okC c = true by unfold okC; rw [decide_eq_true (show 1 ≤ c.s.size by omega), decide_eq_true (show c.s.size ≤ 32 by omega), decide_eq_true (show 0 ≤ c.n by omega), decide_eq_true (show c.n ≤ 16000 by omega)]; rfl))
      have d1 : (1 : Int) ≤ c.s.size := by omega
      have d2 : (c.s.size : Int) ≤ 32 := by omega
      have d3 : 0 ≤ c.n := by omega
      have d4 : c.n ≤ 16000 := by omega
      clear b1 b3 hsz
      go_wp2_with ((first | (go_at_call 24; (with_reducible refine (within_yes _ 1 32 _ d1 d2).mono ?_); rintro e w' ⟨rfl, rfl⟩) | (go_at_call 24; (with_reducible refine (within_yes c.n 0 16000 _ d3 d4).mono ?_); rintro e w' ⟨rfl, rfl⟩)))
      go_roundw
      case rel => exact ⟨k + 1, by omega, by go_num, Lib.hid ⟨HH.out.1.alloc HH.out.1.size _, HY.out⟩⟩
      case measure => simp [intOf]; omega
    · have hk2 : k = l.length := by omega
      have hfin : cellsB l = true := by
        have h := HH.out.2
        rw [List.take_of_length_le (by omega)] at h
        unfold cellsB; rw [h, decide_eq_true h65]; rfl
      have HF := Lib.hid hfin
      clear hfin
      go_wp2_with fail
      go_ret
      exact ⟨by rw [HF.out]; rfl, HH.out.1⟩
end Go.Proofs.Ytgcmbleinobneaa.Ip
