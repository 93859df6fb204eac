/- DERIVED. LxPs in one text. By an AI agent. -/
import Derived.Test.YtkdpndoollbggaaDoorZ31
import Derived.Test.YtkdpndoollbggaaDoorZ07
/- DERIVED. The contract of the program's passed. By an AI agent. -/
namespace Go.Proofs.YtkdpndoollbggaaDoor.Lx
open Go Go.ChangeShapes Go.WideShapes Go.ChangeAt Go.RowKit Args
set_option linter.unusedVariables false
set_option linter.unusedSimpArgs false
def szOf : Value → Nat
  | .string t => t.size
  | _ => 0
theorem bs_size (l : Bs) : (⟨l.toArray⟩ : ByteArray).size = l.length := by show l.toArray.size = _; simp
theorem has (s p : ByteArray) (w : World) : Calls Tryd.prog 47 #[.string s, .string p] w fun e w' => e = .returned (.bool (p.data.toList.isPrefixOf s.data.toList)) ∧ w = w' :=
  (Tryd.strings_HasPrefix s p w).mono fun e w' ⟨h1, h2⟩ => ⟨h1, h2.symm⟩
/-- What holds at the head of a round: blanks are passed over, and what is left behind all is the same. -/
def PsI (R : Bs) (n : Nat) (t : ByteArray) : Prop := (∃ r : Bs, r.dropWhile (blk3.contains ·) = t.data.toList) ∧ restL t.data.toList = R ∧ t.size ≤ n
set_option maxHeartbeats 2000000 in
theorem passed (s : ByteArray) (hs : s.size ≤ 100000) (w : World) : Calls Tryd.prog 37 #[.string s] w fun e w' => e = .returned (.string ⟨(restL s.data.toList).toArray⟩) ∧ Below w.heap.size w w' := by
  obtain ⟨R, hR⟩ : ∃ R, restL s.data.toList = R := ⟨_, rfl⟩
  rw [hR]
  have ht := trim s w
  have hdl : (s.data.toList.dropWhile (blk3.contains ·)).length ≤ s.size := by
    have := (List.dropWhile_sublist (l := s.data.toList) (blk3.contains ·)).length_le
    simpa using this
  have hI : PsI R 100000 ⟨(s.data.toList.dropWhile (blk3.contains ·)).toArray⟩ := ⟨⟨_, rfl⟩, by show restL (s.data.toList.dropWhile (blk3.contains ·)) = R; rw [rest_trim, hR], by rw [bs_size]; omega⟩
  generalize (⟨(s.data.toList.dropWhile (blk3.contains ·)).toArray⟩ : ByteArray) = t0 at *
  have HT := Lib.hid ht; have HI := Lib.hid hI
  clear ht hI hR hdl
  go_enter Tryd.func37, Tryd.ntmps37
  go_wp2_with fail
  refine HT.out.mono ?_
  rintro e w1 ⟨rfl, hb1⟩
  have HB1 := Lib.hid hb1
  clear hb1
  go_wp2_with fail
  go_loopw [0] (fun vi wr => ∃ t : ByteArray, vi = .string t ∧ Hid (PsI R 100000 t) ∧ Hid (Below w.heap.size w wr)) (fun vi _ => szOf vi)
  case atStart => exact ⟨t0, rfl, HI, HB1⟩
  case round =>
    obtain ⟨t, rfl, HP, HW⟩ := hrel
    obtain ⟨⟨r, hr⟩, hrest, hsz⟩ := HP.out
    have hsw := HW.out.size
    cases hp : ([47, 47] : Bs).isPrefixOf t.data.toList with
    | false =>
      have hh := has t ⟨#[47, 47]⟩ wr
      rw [show (⟨#[47, 47]⟩ : ByteArray).data.toList = [47, 47] from rfl, hp] at hh
      have hE := rest_stop hr hp
      have HH := Lib.hid hh
      have HE := Lib.hid (show (⟨R.toArray⟩ : ByteArray) = t by rw [← hrest, hE])
      clear hh hE hr hrest hp HP
      go_wp2_with fail
      refine HH.out.mono ?_
      rintro e w' ⟨rfl, rfl⟩
      go_wp2_with fail
      go_ret
      exact ⟨by rw [HE.out] <;> rfl, HW.out⟩
    | true =>
      have hh := has t ⟨#[47, 47]⟩ wr
      rw [show (⟨#[47, 47]⟩ : ByteArray).data.toList = [47, 47] from rfl, hp] at hh
      obtain ⟨c1, c2⟩ := rest_cm hp
      have hcut := cut t hsz wr
      have htl : t.data.toList.length = t.size := by simp
      obtain ⟨q, hq⟩ : ∃ q : ByteArray, (⟨(aft t.data.toList).toArray⟩ : ByteArray) = q := ⟨_, rfl⟩
      have hqd : q.data.toList = aft t.data.toList := by rw [← hq]
      have hqs : q.size = (aft t.data.toList).length := by rw [← hq, bs_size]
      rw [hq] at hcut
      have htr := fun W => trim q W
      have hdl : (q.data.toList.dropWhile (blk3.contains ·)).length ≤ q.size := by
        have := (List.dropWhile_sublist (l := q.data.toList) (blk3.contains ·)).length_le
        simpa using this
      have hI : PsI R 100000 ⟨(q.data.toList.dropWhile (blk3.contains ·)).toArray⟩ := ⟨⟨_, rfl⟩, by show restL (q.data.toList.dropWhile (blk3.contains ·)) = R; rw [rest_trim, hqd, ← c1, hrest], by rw [bs_size]; omega⟩
      have hms : (⟨(q.data.toList.dropWhile (blk3.contains ·)).toArray⟩ : ByteArray).size < t.size := by rw [bs_size]; omega
      generalize (⟨(q.data.toList.dropWhile (blk3.contains ·)).toArray⟩ : ByteArray) = t2 at *
      have HH := Lib.hid hh; have HC := Lib.hid hcut; have HT2 := Lib.hid htr; have HI2 := Lib.hid hI
      clear hh hcut htr hI hr hrest hp HP c1 c2 hq hqd hqs hdl htl
      go_wp2_with fail
      refine HH.out.mono ?_
      rintro e w' ⟨rfl, rfl⟩
      go_wp2_with fail
      refine HC.out.mono ?_
      rintro e w' ⟨⟨a, b, rfl⟩, n, rfl⟩
      have HW2 := Lib.hid (show Below w.heap.size w (wr.drewN n) from below_drewN HW.out n)
      have hsw2 : w.heap.size ≤ (wr.drewN n).heap.size := hsw
      generalize wr.drewN n = w2 at *
      clear HC HH
      go_wp2_with fail
      refine (HT2.out _).mono ?_
      rintro e w3 ⟨rfl, hb3⟩
      have HW3 := Lib.hid (show Below w.heap.size w w3 from HW2.out.trans (hb3.mono hsw2))
      clear hb3
      go_wp2_with fail
      go_round
      case rel => exact ⟨t2, rfl, HI2, HW3⟩
      case measure => exact hms
end Go.Proofs.YtkdpndoollbggaaDoor.Lx
