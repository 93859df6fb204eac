/- DERIVED. The walk of LexWords. By an AI agent. -/
import Derived.Test.YtiagagljghoacaaDoorLxW
import Derived.Test.YtiagagljghoacaaDoorLxOr
import Derived.Test.YtiagagljghoacaaDoorLxJ
namespace Go.Proofs.YtiagagljghoacaaDoor.Lx
open Go Go.ChangeShapes Go.WideShapes Go.ChangeAt Go.RowKit Args
set_option linter.unusedVariables false
set_option linter.unusedSimpArgs false
set_option maxRecDepth 100000 in
set_option maxHeartbeats 4000000 in
theorem lexWords.walk (W : World) (s : ByteArray) (hs : s.size ≤ 140737488351232) : Calls Tryd.prog 3 #[.string s] W fun e w' => e = .returned (.bool true) ∧ Below W.heap.size W w' := by
  have hwd := pwords s W
  unfold PWordsP at hwd
  have hrw := words s
  unfold WordsP at hrw
  have hfew := words_few s.data.toList
  have H5 := Lib.hid lives
  generalize wordsL s.data.toList = D at *
  obtain ⟨L, at_, er⟩ := D
  dsimp only at *
  have HW := Lib.hid hwd; have HR := Lib.hid hrw
  have HSM := Lib.hid fun A B c d w hA hB => same A B c d L L true w hA hB rfl (fun _ => rfl) (by omega)
  clear hwd hrw
  go_enter Tryd.func3, Tryd.ntmps3
  go_wp2_with fail
  refine HW.out.mono ?_
  rintro e w1 ⟨A, c, rfl, hL, hb1⟩
  have HB1 := Lib.hid hb1; have HL := Lib.hid hL
  clear hb1 hL
  go_wp2_with fail
  refine (HR.out w1).mono ?_
  rintro e w2 ⟨B, d, rfl, hM, hb2⟩
  have HL2 := Lib.hid (HL.out.below hb2); have HM2 := Lib.hid hM
  have HB2 := Lib.hid (HB1.out.trans (hb2.mono HB1.out.size))
  clear hb2 hM
  go_wp2_with fail
  refine (HSM.out A B c d w2 HL2.out HM2.out).mono ?_
  rintro e w3 ⟨rfl, hb3⟩
  have HB3 := Lib.hid (HB2.out.trans (hb3.mono HB2.out.size))
  clear hb3
  go_wp2_with fail
  refine (H5.out _).mono ?_
  rintro e w4 ⟨rfl, hb4⟩
  have HB4 := Lib.hid (HB3.out.trans (hb4.mono HB3.out.size))
  clear hb4
  go_wp2_with fail
  go_ret
  exact ⟨rfl, HB4.out⟩
end Go.Proofs.YtiagagljghoacaaDoor.Lx
