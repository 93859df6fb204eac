/- DERIVED. LxPb in one text. By an AI agent. -/
import Derived.Test.YtkdpndoollbggaaDoorZ29
import Derived.Test.YtkdpndoollbggaaDoorZ07
import Derived.Test.YtkdpndoollbggaaDoorZ12
import Derived.Shelf.Strings.SlTrimAscii
import Derived.OwnWalk
import Derived.Test.YtkdpndoollbggaaDoorZ30
import Derived.RegionTactic
import Derived.Lib.Walk
import Derived.Lib.Slices
/- DERIVED. The contracts of the program's Name, named, passed; of strings.TrimLeft at its blanks and of strings.Cut at one byte. By an AI agent. -/
namespace Go.Proofs.YtkdpndoollbggaaDoor.Lx
open Go Go.ChangeShapes Go.WideShapes Go.ChangeAt Go.RowKit Args
set_option linter.unusedVariables false
set_option linter.unusedSimpArgs false
theorem run_all {S : Bs} (h : S.all (onB true) = true) : S.take (runL true S) = S := by
  have : runL true S = S.length := by
    induction S with
    | nil => rfl
    | cons c r ih =>
      rw [List.all_cons, Bool.and_eq_true] at h
      rw [runL_cons, if_pos h.1, ih h.2]; rfl
  rw [this, List.take_length]
theorem all_run {S : Bs} (h : S.take (runL true S) = S) : S.all (onB true) = true := by
  have key : ∀ S : Bs, (S.take (runL true S)).all (onB true) = true := fun S => by
    induction S with
    | nil => rfl
    | cons c r ih =>
      rw [runL_cons]
      split
      · rename_i hc
        rw [List.take_succ_cons, List.all_cons, hc, ih]; rfl
      · rfl
  have := key S
  rwa [h] at this
set_option maxHeartbeats 2000000 in
theorem pname (s : ByteArray) (hs : s.size ≤ 140737488351232) (w : World) :
    Calls Tryd.prog 65 #[.string s] w fun e w' => e = .returned (.bool (nameB s.data.toList)) ∧ w = w' := by
  obtain ⟨b, hb⟩ : ∃ b, nameB s.data.toList = b := ⟨_, rfl⟩
  rw [hb]
  by_cases h0 : s.size = 0
  · have hsn : s = ⟨#[]⟩ := by
      apply ByteArray.ext; exact Array.eq_empty_of_size_eq_zero h0
    subst hsn
    have HB : b = false := hb.symm
    subst HB
    clear hb
    go_enter Tryd.func65, Tryd.ntmps65
    go_wp2_with fail
    go_ret
    exact ⟨rfl, rfl⟩
  · have h0' : 0 < s.size := by omega
    have hcs := bytes_cons s h0'
    have hne : (s.toList == []) = false := by rw [ByteArray.toList_eq, hcs]; rfl
    have hl : s.data.toList.length = s.size := by simp
    have hw := pword s w
    have hlt := pletter s[0] w
    have hrn := prunT s hs w
    have hb' : b = (decide (s.size ≤ 32) && letB s[0] && !wordB s.data.toList && s.data.toList.all (onB true)) := by
      rw [← hb, ← hl]
      unfold nameB
      rw [hcs]
    clear hb
    cases hL : letB s[0] with
    | false =>
      rw [hL] at hlt hb'
      have HB : b = false := by rw [hb']; simp
      subst HB
      have HL := Lib.hid hlt
      clear hlt hb' hw hrn hcs hl hL h0
      go_enter Tryd.func65, Tryd.ntmps65
      go_wp2_with fail
      refine HL.out.mono ?_
      rintro e w' ⟨rfl, rfl⟩
      go_wp2_with fail
      go_ret
      exact ⟨rfl, rfl⟩
    | true =>
      rw [hL] at hlt hb'
      have HL := Lib.hid hlt
      cases hA : s.data.toList.all (onB true) with
      | false =>
        rw [hA] at hb'
        have HB : b = false := by rw [hb']; simp
        subst HB
        have htn : ((⟨(s.data.toList.take (runL true s.data.toList)).toArray⟩ : ByteArray).toList == s.toList) = false := by
          rw [beq_eq_false_iff_ne, ByteArray.toList_eq, ByteArray.toList_eq]
          intro h
          have := all_run h
          rw [hA] at this; cases this
        generalize (⟨(s.data.toList.take (runL true s.data.toList)).toArray⟩ : ByteArray) = t at *
        have HR := Lib.hid hrn
        clear hlt hb' hw hrn hcs hl hL h0 hA
        go_enter Tryd.func65, Tryd.ntmps65
        go_wp2_with fail
        refine HL.out.mono ?_
        rintro e w' ⟨rfl, rfl⟩
        go_wp2_with fail
        refine HR.out.mono ?_
        rintro e w' ⟨rfl, rfl⟩
        go_wp2_with fail
        go_ret
        exact ⟨rfl, rfl⟩
      | true =>
        rw [hA] at hb'
        rw [run_all hA, show (⟨s.data.toList.toArray⟩ : ByteArray) = s from rfl] at hrn
        have HR := Lib.hid hrn
        by_cases h32 : s.size ≤ 32
        · have HB : b = !wordB s.data.toList := by rw [hb']; simp [h32]
          have i1 : decide ((s.size : Int) ≤ 32) = true := by simp; omega
          generalize wordB s.data.toList = x at *
          subst HB
          have HW := Lib.hid hw
          clear hlt hb' hw hrn hcs hl hL h0 hA
          go_enter Tryd.func65, Tryd.ntmps65
          go_wp2_with fail
          refine HL.out.mono ?_
          rintro e w' ⟨rfl, rfl⟩
          go_wp2_with fail
          refine HR.out.mono ?_
          rintro e w' ⟨rfl, rfl⟩
          go_wp2_with fail
          refine HW.out.mono ?_
          rintro e w' ⟨rfl, rfl⟩
          go_wp2_with fail
          go_ret
          exact ⟨rfl, rfl⟩
        · have HB : b = false := by rw [hb']; simp; omega
          have i1 : decide ((s.size : Int) ≤ 32) = false := by simp; omega
          subst HB
          clear hlt hb' hw hrn hcs hl hL h0 hA
          go_enter Tryd.func65, Tryd.ntmps65
          go_wp2_with fail
          refine HL.out.mono ?_
          rintro e w' ⟨rfl, rfl⟩
          go_wp2_with fail
          refine HR.out.mono ?_
          rintro e w' ⟨rfl, rfl⟩
          go_wp2_with fail
          go_ret
          exact ⟨rfl, rfl⟩
/-- What first and named hand back: a token without its place, an error. -/
def FtV (o : Option (Nat × Bs)) : Value := match o with
  | some (k, t) => .tuple #[.agg #[.int .i64 (k : Int), .string ⟨t.toArray⟩, .int .i64 0], .int .i64 0]
  | none => .tuple #[.agg #[.int .i64 0, .string ⟨#[]⟩, .int .i64 0], .int .i64 100]
def namedL (S : Bs) : Option (Nat × Bs) := if wordB S = true then some (3, S) else if nameB S = true then some (1, S) else none
theorem loadT {w : World} {g : Nat} {a b c : Value} (h : Blk w g 36 #[a, b, c]) : (loadVar 36 ⟨g, 0, none⟩).run Tryd.prog w = .ok (.agg #[a, b, c]) w :=
  run_loadVar_row w g _ _ _ (0, 0) _ h Tryd.underlying36 rfl (by kernel_rfl)
set_option maxHeartbeats 2000000 in
theorem pnamed (s : ByteArray) (hs : s.size ≤ 100000) (w : World) :
    Calls Tryd.prog 50 #[.string s] w fun e w' => e = .returned (FtV (namedL s.data.toList)) ∧ Below w.heap.size w w' := by
  have hw := pword s
  have hn := pname s (by omega)
  cases hW : wordB s.data.toList with
  | true =>
    rw [hW] at hw
    have HV := Lib.hid (show FtV (namedL s.data.toList) = .tuple #[.agg #[.int .i64 3, .string s, .int .i64 0], .int .i64 0] by unfold namedL; rw [if_pos hW]; rfl)
    generalize FtV (namedL s.data.toList) = V at *
    have HW := Lib.hid hw
    clear hw hn hW
    go_enter Tryd.func50, Tryd.ntmps50
    go_wp2_with fail
    refine (HW.out _).mono ?_
    rintro e w' ⟨rfl, rfl⟩
    go_wp2_with fail
    refine bodyPost_ret (results_ct rfl _ _ w.heap.size _ rfl (loadT (Blk.new _ _ _))) rfl ?_
    exact ⟨(congrArg Ending.returned HV.out).symm, (Below.refl _ _).alloc (Nat.le_refl _) _⟩
  | false =>
    rw [hW] at hw
    cases hN : nameB s.data.toList with
    | false =>
      rw [hN] at hn
      have HV := Lib.hid (show FtV (namedL s.data.toList) = .tuple #[.agg #[.int .i64 0, .string ⟨#[]⟩, .int .i64 0], .int .i64 100] by unfold namedL; rw [if_neg (by rw [hW]; decide), if_neg (by rw [hN]; decide)]; rfl)
      generalize FtV (namedL s.data.toList) = V at *
      have HW := Lib.hid hw; have HN := Lib.hid hn
      clear hw hn hW hN
      go_enter Tryd.func50, Tryd.ntmps50
      go_wp2_with fail
      refine (HW.out _).mono ?_
      rintro e w' ⟨rfl, rfl⟩
      go_wp2_with fail
      refine (HN.out _).mono ?_
      rintro e w' ⟨rfl, rfl⟩
      go_wp2_with fail
      refine bodyPost_ret (results_ct rfl _ _ w.heap.size _ rfl (loadT (Blk.new _ _ _))) rfl ?_
      exact ⟨(congrArg Ending.returned HV.out).symm, (Below.refl _ _).alloc (Nat.le_refl _) _⟩
    | true =>
      rw [hN] at hn
      have HV := Lib.hid (show FtV (namedL s.data.toList) = .tuple #[.agg #[.int .i64 1, .string s, .int .i64 0], .int .i64 0] by unfold namedL; rw [if_neg (by rw [hW]; decide), if_pos hN]; rfl)
      generalize FtV (namedL s.data.toList) = V at *
      have HW := Lib.hid hw; have HN := Lib.hid hn
      clear hw hn hW hN
      go_enter Tryd.func50, Tryd.ntmps50
      go_wp2_with fail
      refine (HW.out _).mono ?_
      rintro e w' ⟨rfl, rfl⟩
      go_wp2_with fail
      refine (HN.out _).mono ?_
      rintro e w' ⟨rfl, rfl⟩
      go_wp2_with fail
      refine bodyPost_ret (results_ct rfl _ _ w.heap.size _ rfl (loadT (Blk.new _ _ _))) rfl ?_
      exact ⟨(congrArg Ending.returned HV.out).symm, (Below.refl _ _).alloc (Nat.le_refl _) _⟩
theorem trim (s : ByteArray) (w : World) : Calls Tryd.prog 46 #[.string s, .string ⟨#[32, 9, 10]⟩] w fun e w' => e = .returned (.string ⟨(s.data.toList.dropWhile (blk3.contains ·)).toArray⟩) ∧ Below w.heap.size w w' :=
  Any.strings_TrimLeft_laid Tryd.lays161 (by kernel_rfl) s ⟨#[32, 9, 10]⟩ w (by decide) (fun j b hj => by
    have hm := List.mem_of_getElem? hj
    simp at hm
    rcases hm with rfl | rfl | rfl <;> decide)
theorem aft_at : ∀ (r : Bs), (Lib.indexByte r 10 = -1 ∧ aft r = []) ∨ ∃ i : Nat, Lib.indexByte r 10 = i ∧ i < r.length ∧ aft r = r.drop (i + 1)
  | [] => .inl ⟨rfl, rfl⟩
  | d :: r => by
    have e : Lib.indexByte (d :: r) 10 = if d == 10 then 0 else if Lib.indexByte r 10 == -1 then -1 else Lib.indexByte r 10 + 1 := rfl
    have e2 : aft (d :: r) = if d == 10 then r else aft r := rfl
    by_cases hd : (d == 10) = true
    · exact .inr ⟨0, by rw [e, if_pos hd]; rfl, by simp, by rw [e2, if_pos hd]; rfl⟩
    · rcases aft_at r with ⟨h1, h2⟩ | ⟨i, h1, h2, h3⟩
      · exact .inl ⟨by rw [e, if_neg hd, h1]; rfl, by rw [e2, if_neg hd, h2]⟩
      · refine .inr ⟨i + 1, ?_, by simp; omega, by rw [e2, if_neg hd, h3]; rfl⟩
        rw [e, if_neg hd, h1, if_neg (by rw [beq_iff_eq]; omega)]; push_cast; rfl
set_option maxHeartbeats 2000000 in
theorem cutlite (s : ByteArray) (hs : s.size ≤ 100000) (w : World) : Calls Tryd.prog 63 #[.string s, .string ⟨#[10]⟩] w fun e w' => (∃ a b, e = .returned (.tuple #[.string a, .string ⟨(aft s.data.toList).toArray⟩, .bool b])) ∧ ∃ n, w' = w.drewN n := by
  have hx := Tryd.stringslite_Index_one s 10 w
  rcases aft_at s.data.toList with ⟨h1, h2⟩ | ⟨i, h1, h2, h3⟩
  · rw [h1] at hx
    rw [h2]
    have HX := Lib.hid hx
    clear hx h1 h2
    go_enter Tryd.func63, Tryd.ntmps63
    go_wp2_with fail
    refine HX.out.mono ?_
    rintro e w' ⟨rfl, rfl⟩
    go_wp2_with fail
    go_ret3
    exact ⟨⟨_, _, rfl⟩, 0, rfl⟩
  · rw [h1] at hx
    have hsz : s.data.toList.length = s.size := by simp
    have hil : i + 1 ≤ s.size := by omega
    have hex : (⟨(aft s.data.toList).toArray⟩ : ByteArray) = s.extract (i + 1) s.size := by
      rw [h3, Lib.extract_eq]
      congr 2
      rw [List.take_of_length_le]
      rw [List.length_drop]; simp
    rw [hex]
    have HX := Lib.hid hx
    clear hx h1 h2 h3 hex
    go_enter Tryd.func63, Tryd.ntmps63
    go_wp2_with fail
    refine HX.out.mono ?_
    rintro e w' ⟨rfl, rfl⟩
    go_wp2_with fail
    go_quiet (fail)
    go_wp2_with fail
    go_ret3
    exact ⟨⟨_, _, rfl⟩, nq, rfl⟩
theorem cut (s : ByteArray) (hs : s.size ≤ 100000) (w : World) : Calls Tryd.prog 48 #[.string s, .string ⟨#[10]⟩] w fun e w' => (∃ a b, e = .returned (.tuple #[.string a, .string ⟨(aft s.data.toList).toArray⟩, .bool b])) ∧ ∃ n, w' = w.drewN n := by
  have HX := Lib.hid (cutlite s hs w)
  generalize (⟨(aft s.data.toList).toArray⟩ : ByteArray) = t at *
  go_enter Tryd.func48, Tryd.ntmps48
  go_wp2_with fail
  refine HX.out.mono ?_
  rintro e w' ⟨⟨a, b, rfl⟩, n, rfl⟩
  go_wp2_with fail
  go_ret3
  exact ⟨⟨_, _, rfl⟩, n, rfl⟩
end Go.Proofs.YtkdpndoollbggaaDoor.Lx
