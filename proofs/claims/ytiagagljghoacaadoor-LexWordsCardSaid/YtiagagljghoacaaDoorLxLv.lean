/- DERIVED. The law's lives. By an AI agent. -/
import Derived.Test.YtiagagljghoacaaDoorLxWp
namespace Go.Proofs.YtiagagljghoacaaDoor.Lx
open Go Go.ChangeShapes Go.WideShapes Go.ChangeAt Go.RowKit Args
set_option linter.unusedVariables false
set_option linter.unusedSimpArgs false
theorem live_words : wordsL [97, 60, 60, 60, 51, 59] = ⟨[⟨1, [97], 0⟩, ⟨4, [60, 60, 60], 1⟩, ⟨2, [51], 4⟩, ⟨4, [59], 5⟩, ⟨0, [], 6⟩], 0, 0⟩ := by rfl
set_option maxHeartbeats 2000000 in
theorem lives (w : World) : Calls Tryd.prog 10 #[] w fun e w' => e = .returned (.bool true) ∧ Below w.heap.size w w' := by
  have hw : Calls Tryd.prog 7 #[.string ⟨#[97, 60, 60, 60, 51, 59]⟩] w fun e w' => ∃ b o c, e = .returned (.tuple #[.slice (some ⟨b, o, none⟩) 5 c, .int .i64 0, .int .i64 0]) ∧ w'.cell? ⟨b, o + 3 + 1, none⟩ = some (.string ⟨#[60, 60, 60]⟩) ∧ Below w.heap.size w w' := by
    refine (pwords ⟨#[97, 60, 60, 60, 51, 59]⟩ w).mono fun e w' ⟨A, c, h1, h2, h3⟩ => ?_
    rw [show (⟨#[97, 60, 60, 60, 51, 59]⟩ : ByteArray).data.toList = [97, 60, 60, 60, 51, 59] from rfl, live_words] at h1 h2
    obtain ⟨b, o, rfl, _, hc⟩ := h2.at_ (j := 4) (u := .string ⟨#[60, 60, 60]⟩) rfl
    exact ⟨b, o, c, h1, hc 4 _ rfl, h3⟩
  have HW := Lib.hid hw
  have HF := Lib.hid (show ∀ W, Calls Tryd.prog 11 #[.string ⟨#[102, 110]⟩] W fun e w' => e = .returned (.bool true) ∧ W = w' from fun W => pword ⟨#[102, 110]⟩ W)
  have HX := Lib.hid (show ∀ W, Calls Tryd.prog 13 #[.string ⟨#[102, 120]⟩] W fun e w' => e = .returned (.bool true) ∧ W = w' from fun W => pname ⟨#[102, 120]⟩ (by decide) W)
  clear hw
  go_enter Tryd.func10, Tryd.ntmps10
  go_wp2_with fail
  refine HW.out.mono ?_
  rintro e w1 ⟨b, o, c, rfl, hc, hb⟩
  have HB := Lib.hid hb
  clear hb
  go_wp2_with fail
  refine (HF.out _).mono ?_
  rintro e w' ⟨rfl, rfl⟩
  go_wp2_with fail
  refine (HX.out _).mono ?_
  rintro e w' ⟨rfl, rfl⟩
  go_wp2_with fail
  go_ret
  exact ⟨rfl, HB.out⟩
/-- The walk of LexNames. -/
theorem lexNames.walk (W : World) (s : ByteArray) (hs : s.size ≤ 140737488351232) : Calls Tryd.prog 4 #[.string s] W fun e w' => e = .returned (.bool true) ∧ Below W.heap.size W w' := by
  have H1 := Lib.hid (pword s); have H2 := Lib.hid (word s); have H3 := Lib.hid (pname s hs); have H4 := Lib.hid (name s); have H5 := Lib.hid lives
  generalize wordB s.data.toList = x at *
  generalize nameB s.data.toList = y at *
  go_enter Tryd.func4, Tryd.ntmps4
  go_wp2_with fail
  refine (H1.out _).mono ?_
  rintro e w' ⟨rfl, rfl⟩
  go_wp2_with fail
  refine (H2.out _).mono ?_
  rintro e w1 ⟨rfl, b1⟩
  have B1 := Lib.hid b1
  clear b1
  go_wp2_with fail
  refine (H3.out _).mono ?_
  rintro e w' ⟨rfl, rfl⟩
  go_wp2_with fail
  refine (H4.out _).mono ?_
  rintro e w2 ⟨rfl, b2⟩
  have B2 := Lib.hid (B1.out.trans (b2.mono B1.out.size))
  clear b2
  go_wp2_with fail
  refine (H5.out _).mono ?_
  rintro e w3 ⟨rfl, b3⟩
  have B3 := Lib.hid (B2.out.trans (b3.mono B2.out.size))
  clear b3
  go_wp2_with fail
  go_ret
  exact ⟨rfl, B3.out⟩
end Go.Proofs.YtiagagljghoacaaDoor.Lx
