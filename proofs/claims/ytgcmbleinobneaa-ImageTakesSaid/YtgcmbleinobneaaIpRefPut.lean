/- DERIVED. The reference's Put in all its ways. By an AI agent. -/
import Derived.Test.YtgcmbleinobneaaIpAny
namespace Go.Proofs.Ytgcmbleinobneaa.Ip
open Go.ChangeShapes Go.WideShapes Go.ChangeAt Go.RowKit Args
set_option linter.unusedVariables false
open ImRef (Cs canM man)
set_option maxHeartbeats 1000000 in
theorem rput_arg (A0 : Option Addr) (n cap : Nat) (m : Man) (A4 A5 A6 : Option Addr) (c4 c5 c6 : Nat) (w : World) (h4 : Cs w A4 m.se) (h5 : Cs w A5 m.pu) (h6 : Cs w A6 m.ou) (hc : canM m = false) :
    Calls Try.prog 11 #[.slice A0 n cap, man m A4 A5 A6 c4 c5 c6] w fun e w' => e = .returned (.tuple #[.slice none 0 0, .int .i64 1]) ∧ Below w.heap.size w w' := by
  have hcan := fun W h4 h5 h6 => ImRef.can m A4 A5 A6 c4 c5 c6 W h4 h5 h6
  rw [hc] at hcan
  have HCAN := Lib.hid hcan; have H4 := Lib.hid h4; have H5 := Lib.hid h5; have H6 := Lib.hid h6
  clear hcan h4 h5 h6 hc
  go_enter Try.func11, Try.ntmps11
  go_wp2_with fail
  have hb0 : ∀ o, Below w.heap.size w (w.alloc o) := fun o => (Below.refl _ _).alloc (Nat.le_refl _) _
  refine (HCAN.out _ (H4.out.below (hb0 _)) (H5.out.below (hb0 _)) (H6.out.below (hb0 _))).mono ?_
  rintro e wa ⟨rfl, hb1⟩
  have HBW := Lib.hid ((hb0 _).trans (hb1.mono (by simp)))
  clear hb0 hb1
  go_wp2_with fail
  go_ret2
  exact ⟨rfl, HBW.out⟩
set_option maxHeartbeats 1000000 in
theorem rput_long (A0 : Option Addr) (n cap : Nat) (m : Man) (A4 A5 A6 : Option Addr) (c4 c5 c6 : Nat) (w : World) (h4 : Cs w A4 m.se) (h5 : Cs w A5 m.pu) (h6 : Cs w A6 m.ou) (hc : canM m = true) (hl : 60000 < n) :
    Calls Try.prog 11 #[.slice A0 n cap, man m A4 A5 A6 c4 c5 c6] w fun e w' => e = .returned (.tuple #[.slice none 0 0, .int .i64 2]) ∧ Below w.heap.size w w' := by
  have hcan := fun W h4 h5 h6 => ImRef.can m A4 A5 A6 c4 c5 c6 W h4 h5 h6
  rw [hc] at hcan
  have HCAN := Lib.hid hcan; have H4 := Lib.hid h4; have H5 := Lib.hid h5; have H6 := Lib.hid h6
  clear hcan h4 h5 h6 hc
  go_enter Try.func11, Try.ntmps11
  go_wp2_with fail
  have hb0 : ∀ o, Below w.heap.size w (w.alloc o) := fun o => (Below.refl _ _).alloc (Nat.le_refl _) _
  refine (HCAN.out _ (H4.out.below (hb0 _)) (H5.out.below (hb0 _)) (H6.out.below (hb0 _))).mono ?_
  rintro e wa ⟨rfl, hb1⟩
  have HBW := Lib.hid ((hb0 _).trans (hb1.mono (by simp)))
  clear hb0 hb1
  go_wp2_with fail
  go_ret2
  exact ⟨rfl, HBW.out⟩
open ImRef
theorem rputAny (A0 : Option Addr) (cap : Nat) (zs : List Int) (m : Man) (A4 A5 A6 : Option Addr) (c4 c5 c6 : Nat) (w : World) (hz : Lies w A0 (zs.map (.int .u16))) (hzb : ∀ z ∈ zs, 0 ≤ z ∧ z ≤ 65535) (hzl : zs.length ≤ 140737488351232) (h4 : Cs w A4 m.se) (h5 : Cs w A5 m.pu) (h6 : Cs w A6 m.ou) :
    Calls Try.prog 11 #[.slice A0 zs.length cap, man m A4 A5 A6 c4 c5 c6] w (PutR zs m w) := by
  cases hc : canM m with
  | false =>
    have he : putE zs m = 1 := by unfold putE; rw [hc]; rfl
    refine (rput_arg A0 zs.length cap m A4 A5 A6 c4 c5 c6 w h4 h5 h6 hc).mono ?_
    rintro en w' ⟨rfl, hb⟩
    exact ⟨none, 0, 0, by rw [he]; rfl, hb, fun h => (by rw [he] at h; cases h), fun _ => ⟨rfl, rfl, rfl⟩⟩
  | true =>
    by_cases hl : 60000 < zs.length
    · have he : putE zs m = 2 := by unfold putE; rw [hc, if_pos rfl, if_pos hl]
      refine (rput_long A0 zs.length cap m A4 A5 A6 c4 c5 c6 w h4 h5 h6 hc hl).mono ?_
      rintro en w' ⟨rfl, hb⟩
      exact ⟨none, 0, 0, by rw [he]; rfl, hb, fun h => (by rw [he] at h; cases h), fun _ => ⟨rfl, rfl, rfl⟩⟩
    · have he : putE zs m = 0 := by unfold putE; rw [hc, if_pos rfl, if_neg hl]
      refine (ImRef.put A0 cap zs m A4 A5 A6 c4 c5 c6 w hz hzb hzl h4 h5 h6 hc (by omega)).mono ?_
      rintro en w' ⟨A', c', l', rfl, ho, hb⟩
      exact ⟨A', c', l', by rw [he]; rfl, hb, fun _ => ho, fun h => absurd he h⟩
def putD (zs : List Int) (m : Man) : List Int := if putE zs m = 0 then putL zs m else []
theorem putR_d {zs : List Int} {m : Man} {w w' : World} {en : Ending} (h : PutR zs m w en w') :
    ∃ A' c', en = .returned (.tuple #[.slice A' (putD zs m).length c', .int .i64 (putE zs m : Nat)]) ∧ Below w.heap.size w w' ∧ Lies w' A' ((putD zs m).map (.int .u8)) ∧ (putD zs m).length ≤ c' ∧ c' ≤ maxLen := by
  obtain ⟨A', c', l', rfl, hb, h0, h1⟩ := h
  unfold putD
  by_cases he : putE zs m = 0
  · rw [if_pos he]
    obtain ⟨rfl, ho⟩ := h0 he
    obtain ⟨A2, c2, e, q1, q2, q3⟩ := sl_own ho
    injection e with e1 e2 e3
    subst e1 e3
    exact ⟨A', c', rfl, hb, q3, q1, q2⟩
  · rw [if_neg he]
    obtain ⟨rfl, rfl, rfl⟩ := h1 he
    exact ⟨none, 0, rfl, hb, Lies.nil _ _, Nat.le_refl _, by decide⟩
theorem conv_d {w : World} {A : Option Addr} {c : Nat} {bs : List Int} (hL : Lies w A (bs.map (.int .u8))) : (convert 28 9 (.slice A bs.length c)).run Try.prog w = .ok (.string (strOfNums bs)) w :=
  run_string_of 28 5 Try.underlying28 Try.underlying5 A bs.length c bs rfl hL 9 Try.underlying9
theorem box9 {w : World} {g : Nat} {t : TypeId} {m : Man} {A4 A5 A6 : Option Addr} {c4 c5 c6 : Nat} (h : Blk w g t (manV m A4 A5 A6 c4 c5 c6)) {A A' : Option Addr} {c c' : Nat} {bs : List Int} (hL : Lies w A (bs.map (.int .u8))) (hL' : Lies w A' (bs.map (.int .u8))) :
    w.cell? ⟨g, 0, none⟩ = some (.int .i64 m.o) ∧ w.cell? ⟨g, 1, none⟩ = some (.int .i64 m.s) ∧ w.cell? ⟨g, 2, none⟩ = some (.int .i64 m.r) ∧ w.cell? ⟨g, 3, none⟩ = some (.int .i64 m.w) ∧ w.cell? ⟨g, 4, none⟩ = some (.slice A4 m.se.length c4) ∧ w.cell? ⟨g, 5, none⟩ = some (.slice A5 m.pu.length c5) ∧ w.cell? ⟨g, 6, none⟩ = some (.slice A6 m.ou.length c6) ∧ (convert 28 9 (.slice A bs.length c)).run Try.prog w = .ok (.string (strOfNums bs)) w ∧ (convert 28 9 (.slice A' bs.length c')).run Try.prog w = .ok (.string (strOfNums bs)) w :=
  ⟨h.cell 0, h.cell 1, h.cell 2, h.cell 3, h.cell 4, h.cell 5, h.cell 6, conv_d hL, conv_d hL'⟩
end Go.Proofs.Ytgcmbleinobneaa.Ip
