/- DERIVED. The contract of the reference's Name. By an AI agent. -/
import Derived.Test.YtiagagljghoacaaDoorLxK
namespace Go.Proofs.YtiagagljghoacaaDoor.Lx
open Go Go.ChangeShapes Go.WideShapes Go.ChangeAt Go.RowKit Args
set_option linter.unusedVariables false
set_option linter.unusedSimpArgs false
def nameB (s : Bs) : Bool := match s with
  | [] => false
  | c :: r => decide ((c :: r).length ≤ 32) && letB c && !wordB (c :: r) && (c :: r).all (onB true)
theorem bytes_cons (s : ByteArray) (h : 0 < s.size) : s.data.toList = s[0] :: s.data.toList.drop 1 := by
  have := drop_at s 0 h
  rwa [List.drop_zero] at this
theorem at_list (s : ByteArray) (k : Nat) (h : k < s.size) : s.data.toList[k]? = some s[k] := by
  rw [List.getElem?_eq_getElem (by simpa using h)]; rfl
set_option maxRecDepth 100000 in
set_option maxHeartbeats 4000000 in
theorem name (s : ByteArray) (w : World) :
    Calls Tryd.prog 14 #[.string s] w fun e w' => e = .returned (.bool (nameB s.data.toList)) ∧ Below w.heap.size w w' := by
  have hB := Lib.hid (Below.refl w.heap.size w)
  obtain ⟨b, hb⟩ : ∃ b, nameB s.data.toList = b := ⟨_, rfl⟩
  rw [hb]
  by_cases h0 : s.size = 0
  · have hsn : s = ⟨#[]⟩ := by
      apply ByteArray.ext; exact Array.eq_empty_of_size_eq_zero h0
    subst hsn
    have HB : b = false := hb.symm
    subst HB
    clear hb
    go_enter Tryd.func14, Tryd.ntmps14
    go_wp2_with fail
    go_ret
    exact ⟨rfl, hB.out⟩
  · have h0' : 0 < s.size := by omega
    have hcs := bytes_cons s h0'
    have hne : (s.toList == []) = false := by rw [ByteArray.toList_eq, hcs]; rfl
    have hl : s.data.toList.length = s.size := by simp
    have hw := word s w
    have hlt := letter s[0] w
    by_cases h32 : 32 < s.size
    · have HB : b = false := by
        rw [← hb, hcs]; show (decide ((s[0] :: s.data.toList.drop 1).length ≤ 32) && _ && _ && _) = false
        rw [← hcs, hl, decide_eq_false (by omega)]; rfl
      subst HB
      have i1 : decide ((32 : Int) < (s.size : Int)) = true := by simp; omega
      clear hb hcs hl hw hlt
      go_enter Tryd.func14, Tryd.ntmps14
      go_wp2_with fail
      go_ret
      exact ⟨rfl, hB.out⟩
    · have i1 : decide ((32 : Int) < (s.size : Int)) = false := by simp; omega
      by_cases hl0 : letB s[0] = true
      · rw [hl0] at hlt
        have HL := Lib.hid hlt
        have hbb : b = (!wordB s.data.toList && s.data.toList.all (onB true)) := by
          rw [← hb, hcs]; show (decide ((s[0] :: s.data.toList.drop 1).length ≤ 32) && letB s[0] && !wordB (s[0] :: s.data.toList.drop 1) && (s[0] :: s.data.toList.drop 1).all (onB true)) = _
          rw [← hcs, hl, hl0, decide_eq_true (by omega)]; rfl
        by_cases hwd : wordB s.data.toList = true
        · have HB : b = false := by rw [hbb, hwd]; rfl
          subst HB
          rw [hwd] at hw
          have HW := Lib.hid hw
          clear hb hbb hcs hl hw hlt hl0 hwd
          go_enter Tryd.func14, Tryd.ntmps14
          go_wp2_with fail
          refine HL.out.mono ?_
          rintro e w' ⟨rfl, rfl⟩
          go_wp2_with fail
          refine HW.out.mono ?_
          rintro e w' ⟨rfl, hb⟩
          have HB := Lib.hid hb
          clear hb
          go_wp2_with fail
          go_ret
          exact ⟨rfl, HB.out⟩
        · have hwd' : wordB s.data.toList = false := by simpa using hwd
          have HB : b = s.data.toList.all (onB true) := by rw [hbb, hwd']; rfl
          rw [hwd'] at hw
          have HW := Lib.hid hw
          have HBB := Lib.hid HB
          clear hb hbb hcs hl hw hlt hl0 hwd hwd' HB
          go_enter Tryd.func14, Tryd.ntmps14
          go_wp2_with fail
          refine HL.out.mono ?_
          rintro e w' ⟨rfl, rfl⟩
          go_wp2_with fail
          refine HW.out.mono ?_
          rintro e w1 ⟨rfl, hb⟩
          have HB := Lib.hid hb
          clear hb
          go_wp2_with fail
          go_loop [3] (fun vi => ∃ k : Nat, k ≤ s.size ∧ vi = .int .i64 k ∧ Hid ((s.data.toList.drop k).all (onB true) = b)) (fun vi => s.size - (intOf vi).toNat)
          case atStart => exact ⟨0, by omega, rfl, Lib.hid (by rw [List.drop_zero]; exact HBB.out.symm)⟩
          case round =>
            obtain ⟨k, hk, rfl, HQ⟩ := hrel
            by_cases hlt : k < s.size
            · have hq := HQ.out
              rw [drop_at s k hlt, List.all_cons] at hq
              have hle := letter s[k] w1
              have hnu := num s[k] w1
              have hon : onB true s[k] = (letB s[k] || numB s[k] || (s[k] == 95)) := by unfold onB; rw [Bool.true_and]
              generalize hx : letB s[k] = x at *
              generalize hy : numB s[k] = y at *
              have h95 : (s[k] == 95) = ((s[k].toNat : Int) == 95) := by
                rw [Bool.eq_iff_iff]; simp only [beq_iff_eq]
                constructor
                · intro e; rw [e]; rfl
                · intro e; exact u8_of (n := 95) (by omega)
              rw [h95] at hon
              rw [hon] at hq
              have HLE := Lib.hid hle; have HNU := Lib.hid hnu
              clear hle hnu hx hy hon h95
              cases x with
              | true =>
                have HN := Lib.hid (show (s.data.toList.drop (k + 1)).all (onB true) = b by simpa using hq)
                clear hq HQ
                go_wp2_with fail
                refine HLE.out.mono ?_
                rintro e w' ⟨rfl, rfl⟩
                go_wp2_with fail
                go_round
                case rel => exact ⟨k + 1, by omega, by go_num, HN⟩
                case measure => simp [intOf]; omega
              | false =>
                cases y with
                | true =>
                  have HN := Lib.hid (show (s.data.toList.drop (k + 1)).all (onB true) = b by simpa using hq)
                  clear hq HQ
                  go_wp2_with fail
                  refine HLE.out.mono ?_
                  rintro e w' ⟨rfl, rfl⟩
                  go_wp2_with fail
                  refine HNU.out.mono ?_
                  rintro e w' ⟨rfl, rfl⟩
                  go_wp2_with fail
                  go_round
                  case rel => exact ⟨k + 1, by omega, by go_num, HN⟩
                  case measure => simp [intOf]; omega
                | false =>
                  cases hz : ((s[k].toNat : Int) == 95) with
                  | true =>
                    have hz2 : ((s[k].toNat : Int) != 95) = false := by simp [bne, hz]
                    rw [hz] at hq
                    have HN := Lib.hid (show (s.data.toList.drop (k + 1)).all (onB true) = b by simpa using hq)
                    clear hq HQ hz
                    go_wp2_with fail
                    refine HLE.out.mono ?_
                    rintro e w' ⟨rfl, rfl⟩
                    go_wp2_with fail
                    refine HNU.out.mono ?_
                    rintro e w' ⟨rfl, rfl⟩
                    go_wp2_with fail
                    go_round
                    case rel => exact ⟨k + 1, by omega, by go_num, HN⟩
                    case measure => simp [intOf]; omega
                  | false =>
                    have hz2 : ((s[k].toNat : Int) != 95) = true := by simp [bne, hz]
                    rw [hz] at hq
                    have HN := Lib.hid (show false = b by simpa using hq)
                    clear hq HQ hz
                    go_wp2_with fail
                    refine HLE.out.mono ?_
                    rintro e w' ⟨rfl, rfl⟩
                    go_wp2_with fail
                    refine HNU.out.mono ?_
                    rintro e w' ⟨rfl, rfl⟩
                    go_wp2_with fail
                    go_ret
                    exact ⟨by rw [← HN.out] <;> rfl, HB.out⟩
            · have HN := Lib.hid (show true = b by rw [← HQ.out, drop_end s k (by omega)]; rfl)
              clear HQ
              go_wp2_with fail
              go_ret
              exact ⟨by rw [← HN.out] <;> rfl, HB.out⟩
      · have hl0' : letB s[0] = false := by simpa using hl0
        have HB : b = false := by
          rw [← hb, hcs]; show (_ && letB s[0] && _ && _) = false
          rw [hl0']; simp
        subst HB
        rw [hl0'] at hlt
        have HL := Lib.hid hlt
        clear hb hcs hl hw hlt hl0 hl0'
        go_enter Tryd.func14, Tryd.ntmps14
        go_wp2_with fail
        refine HL.out.mono ?_
        rintro e w' ⟨rfl, rfl⟩
        go_wp2_with fail
        go_ret
        exact ⟨rfl, hB.out⟩
end Go.Proofs.YtiagagljghoacaaDoor.Lx
