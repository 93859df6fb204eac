/- DERIVED. The contract of the laws' lives. By an AI agent. -/
import Derived.Test.YtgcmbleinobneaaIpPut
import Derived.Test.YtgcmbleinobneaaMem
import Derived.Test.YtgcmbleinobneaaImSpec
namespace Go.Proofs.Ytgcmbleinobneaa.Ip
open Go.ChangeShapes Go.WideShapes Go.ChangeAt Go.RowKit Args ImRef
set_option linter.unusedVariables false
theorem can0 : canM man0 = true := by decide
theorem Cs.none_ (w : World) : Cs w none [] := ⟨Lies.nil _ _, by decide, fun c h => by cases h⟩
theorem live_bytes : putL [4660] man0 = [77, 83, 75, 49, 0, 0, 0, 0, 0, 0, 0, 0, 0, 0, 0, 0, 0, 0, 0, 0, 1, 0, 0, 0, 52, 18, 0, 0, 0] := by decide +kernel
set_option maxRecDepth 100000 in
set_option maxHeartbeats 4000000 in
theorem lives (w : World) : Calls Try.prog 9 #[] w fun e w' => e = .returned (.bool true) ∧ Below w.heap.size w w' := by
  have hL : Lies (w.alloc (.cells #[.int .u16 4660] 44)) (some ⟨w.heap.size, 0, none⟩) ([(4660 : Int)].map (.int .u16)) := fun j u hj => ⟨_, rfl, by
    rw [Args.add_plain, Nat.zero_add, World.cell?_alloc_at _ _ _ _ rfl]
    simpa using hj⟩
  have HL := Lib.hid hL
  clear hL
  go_enter Try.func9, Try.ntmps9
  go_wp2_with fail
  refine (put (some ⟨w.heap.size, 0, none⟩) 1 [4660] man0 none none none 0 0 0 _ HL.out (by decide) (Cs.none_ _) (Cs.none_ _) (Cs.none_ _) can0 (by decide)).mono ?_
  rintro e w1 ⟨A1, c1, l1, rfl, h1, h2⟩
  rw [live_bytes] at h1
  obtain ⟨rfl, h1⟩ := h1
  obtain ⟨g, cap, e, _, _⟩ := World.ownsRow.form h1 (by decide)
  injection e with e1 e2 e3
  subst e1
  have hc := h1.cellAt
  have c24 : w1.cell? ⟨g, 24, none⟩ = some (.int .u8 52) := hc 24 (by decide)
  have c25 : w1.cell? ⟨g, 25, none⟩ = some (.int .u8 18) := hc 25 (by decide)
  have hlen : ([77, 83, 75, 49, 0, 0, 0, 0, 0, 0, 0, 0, 0, 0, 0, 0, 0, 0, 0, 0, 1, 0, 0, 0, 52, 18, 0, 0, 0] : List Int).length = 29 := rfl
  have hcap : 29 ≤ c1 := by
    rcases h1.2 with ⟨e, _⟩ | ⟨g', cap', cur, e, _, _, h3, _⟩
    · cases e
    · injection e with e1 e2 e3; rw [e3]; exact h3
  have hcv : ∀ c dst, Try.prog.underlying dst = some .string → (convert 28 dst (.slice (some ⟨g, 0, none⟩) 4 c)).run Try.prog w1 = .ok (.string (strOfNums [77, 83, 75, 49])) w1 := fun c =>
    run_string_of 28 5 Try.underlying28 Try.underlying5 (some ⟨g, 0, none⟩) 4 c [77, 83, 75, 49] rfl (fun j u hj => ⟨_, rfl, by
      rw [Args.add_plain, Nat.zero_add]
      match j, hj with
      | 0, hj => simp at hj; subst hj; exact hc 0 (by decide)
      | 1, hj => simp at hj; subst hj; exact hc 1 (by decide)
      | 2, hj => simp at hj; subst hj; exact hc 2 (by decide)
      | 3, hj => simp at hj; subst hj; exact hc 3 (by decide)
      | j + 4, hj => simp at hj⟩)
  have hcv9 := fun c => hcv c 9 Try.underlying9
  have hse : ((strOfNums [77, 83, 75, 49]).toList == [77, 83, 75, 49]) = true := by decide +kernel
  generalize strOfNums [77, 83, 75, 49] = sx at hcv9 hse
  have HB := Lib.hid (((Below.refl w.heap.size w).alloc (Nat.le_refl _) _).trans (h2.mono (by simp)))
  clear h1 h2 hc hcv e2 e3
  simp only [hlen]
  clear hlen
  go_wp2_with fail
  go_ret
  exact ⟨rfl, HB.out⟩
end Go.Proofs.Ytgcmbleinobneaa.Ip
