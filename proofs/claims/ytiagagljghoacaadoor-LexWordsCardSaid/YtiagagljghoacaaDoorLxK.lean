/- DERIVED. The contracts of the reference's skip and Name. By an AI agent. -/
import Derived.Test.YtiagagljghoacaaDoorLxC
namespace Go.Proofs.YtiagagljghoacaaDoor.Lx
open Go Go.ChangeShapes Go.WideShapes Go.ChangeAt Go.RowKit Args
set_option linter.unusedVariables false
set_option linter.unusedSimpArgs false
theorem u8_of {c : UInt8} {n : Nat} (h : c.toNat = n) : c = UInt8.ofNat n := by rw [← h]; simp
theorem skip_sp {c : UInt8} {r : Bs} (h : c.toNat = 32 ∨ c.toNat = 9 ∨ c.toNat = 10) : skipL false (c :: r) = skipL false r + 1 := by
  rcases h with h | h | h <;> (rw [u8_of h]; rfl)
theorem skip_cm {c d : UInt8} {r : Bs} (h : c.toNat = 47) (h2 : d.toNat = 47) : skipL false (c :: d :: r) = skipL true (c :: d :: r) := by
  rw [u8_of h, u8_of h2]; rfl
theorem u8_ne {c : UInt8} {n : Nat} (h : c.toNat ≠ n) (hn : n < 256) : c ≠ UInt8.ofNat n := fun e => h (by rw [e]; simp; omega)
theorem skip_no {c : UInt8} {r : Bs} (h1 : c.toNat ≠ 32) (h2 : c.toNat ≠ 9) (h3 : c.toNat ≠ 10) (h4 : c.toNat = 47 → ∀ d, r.head? = some d → d.toNat ≠ 47) : skipL false (c :: r) = 0 := by
  have e1 := u8_ne h1 (by decide); have e2 := u8_ne h2 (by decide); have e3 := u8_ne h3 (by decide)
  have f1 : c ≠ 32 := e1
  have f2 : c ≠ 9 := e2
  have f3 : c ≠ 10 := e3
  unfold skipL
  rw [if_neg (by simp [f1, f2, f3])]
  by_cases h : c.toNat = 47
  · cases r with
    | nil => simp
    | cons d r =>
      have f4 : d ≠ 47 := u8_ne (h4 h d rfl) (by decide)
      rw [if_neg (by simp [f4])]
  · have f4 : c ≠ 47 := u8_ne h (by decide)
    rw [if_neg (by simp [f4])]
theorem cm_nl {c : UInt8} {r : Bs} (h : c.toNat = 10) : skipL true (c :: r) = skipL false (c :: r) := by rw [u8_of h]; rfl
theorem cm_on {c : UInt8} {r : Bs} (h : c.toNat ≠ 10) : skipL true (c :: r) = skipL true r + 1 := by
  have f : c ≠ 10 := u8_ne h (by decide)
  show (if c == 10 then skipL false r + 1 else skipL true r + 1) = _
  rw [if_neg (by simp [f])]
theorem drop_at (s : ByteArray) (k : Nat) (h : k < s.size) : s.data.toList.drop k = s[k] :: s.data.toList.drop (k + 1) := by
  have h' : k < s.data.toList.length := by simpa using h
  rw [List.drop_eq_getElem_cons h']; rfl
theorem drop_end (s : ByteArray) (k : Nat) (h : s.size ≤ k) : s.data.toList.drop k = [] := List.drop_of_length_le (by simpa using h)
set_option maxRecDepth 100000 in
set_option maxHeartbeats 4000000 in
theorem skip (s : ByteArray) (i : Nat) (hi : i ≤ s.size) (hs : s.size ≤ 100000) (w : World) :
    Calls Tryd.prog 18 #[.string s, .int .i64 (i : Int)] w fun e w' => e = .returned (.int .i64 ((i + skipL false (s.data.toList.drop i) : Nat) : Int)) ∧ w = w' := by
  obtain ⟨r, hr⟩ : ∃ r, i + skipL false (s.data.toList.drop i) = r := ⟨_, rfl⟩
  rw [hr]
  have HR := Lib.hid hr
  clear hr
  go_enter Tryd.func18, Tryd.ntmps18
  go_wp2_with fail
  go_loop [1] (fun vi => ∃ k : Nat, k ≤ s.size ∧ vi = .int .i64 k ∧ Hid (k + skipL false (s.data.toList.drop k) = r)) (fun vi => s.size - (intOf vi).toNat)
  case atStart => exact ⟨i, hi, rfl, HR⟩
  case round =>
    clear HR
    obtain ⟨k, hk, rfl, HQ⟩ := hrel
    by_cases hlt : k < s.size
    · have hd := drop_at s k hlt
      have hq := HQ.out
      rw [hd] at hq
      have hc := s[k].toNat_lt
      by_cases h32 : s[k].toNat = 32 ∨ s[k].toNat = 9 ∨ s[k].toNat = 10
      · rw [skip_sp h32] at hq
        have HN := Lib.hid (show k + 1 + skipL false (s.data.toList.drop (k + 1)) = r by omega)
        clear hd hq
        by_cases n1 : s[k].toNat = 32
        · have e1 : ((s[k].toNat : Int) == 32) = true := by simp; omega
          clear h32 n1 hc HQ
          go_wp2_with fail
          go_round
          case rel => exact ⟨k + 1, by omega, by go_num, HN⟩
          case measure => simp [intOf]; omega
        · have e1 : ((s[k].toNat : Int) == 32) = false := by simp; omega
          by_cases n2 : s[k].toNat = 9
          · have e2 : ((s[k].toNat : Int) == 9) = true := by simp; omega
            clear h32 n1 n2 hc HQ
            go_wp2_with fail
            go_round
            case rel => exact ⟨k + 1, by omega, by go_num, HN⟩
            case measure => simp [intOf]; omega
          · have e2 : ((s[k].toNat : Int) == 9) = false := by simp; omega
            have e3 : ((s[k].toNat : Int) == 10) = true := by simp; omega
            clear h32 n1 n2 hc HQ
            go_wp2_with fail
            go_round
            case rel => exact ⟨k + 1, by omega, by go_num, HN⟩
            case measure => simp [intOf]; omega
      · have n1 : s[k].toNat ≠ 32 := by omega
        have n2 : s[k].toNat ≠ 9 := by omega
        have n3 : s[k].toNat ≠ 10 := by omega
        have e1 : ((s[k].toNat : Int) == 32) = false := by simp; omega
        have e2 : ((s[k].toNat : Int) == 9) = false := by simp; omega
        have e3 : ((s[k].toNat : Int) == 10) = false := by simp; omega
        have e10 : ((s[k].toNat : Int) != 10) = true := by simp; omega
        by_cases h47 : s[k].toNat = 47
        · by_cases hk1 : k + 1 < s.size
          · have hd1 := drop_at s (k + 1) hk1
            by_cases h48 : s[k + 1].toNat = 47
            · rw [hd1, skip_cm h47 h48, ← hd1, ← hd] at hq
              have HN := Lib.hid hq
              have HW : Hid (∀ h : k < s.size, s[k].toNat = 10 → k < k) := Lib.hid fun h e => by omega
              have e4 : ((s[k].toNat : Int) == 47) = true := by simp; omega
              have e5 : ((s[k + 1].toNat : Int) == 47) = true := by simp; omega
              have hk1' : (k : Int) + 1 < (s.size : Int) := by omega
              clear hd hq hd1 h32 h47 h48 hc n1 n2 n3 HQ
              go_wp2_with fail
              go_loop [1] (fun vi => ∃ m : Nat, (m ≤ s.size ∧ k ≤ m) ∧ vi = .int .i64 m ∧ Hid (m + skipL true (s.data.toList.drop m) = r) ∧ Hid (∀ h : m < s.size, s[m].toNat = 10 → k < m)) (fun vi => s.size - (intOf vi).toNat)
              case atStart => exact ⟨k, ⟨by omega, Nat.le_refl _⟩, rfl, HN, HW⟩
              case round =>
                clear HN
                obtain ⟨m, ⟨hm, hkm⟩, rfl, HM, HV⟩ := hrel
                by_cases hlt2 : m < s.size
                · have hd2 := drop_at s m hlt2
                  have hq2 := HM.out
                  rw [hd2] at hq2
                  by_cases n10 : s[m].toNat = 10
                  · rw [cm_nl n10, ← hd2] at hq2
                    have HN := Lib.hid hq2
                    have hlt3 : k < m := HV.out hlt2 n10
                    have e6 : ((s[m].toNat : Int) != 10) = false := by simp; omega
                    clear hq2 hd2 n10 HM
                    go_wp2_with fail
                    go_round
                    case rel => exact ⟨m, by omega, by go_num, HN⟩
                    case measure => simp [intOf]; omega
                  · rw [cm_on n10] at hq2
                    have HN := Lib.hid (show m + 1 + skipL true (s.data.toList.drop (m + 1)) = r by omega)
                    have e6 : ((s[m].toNat : Int) != 10) = true := by simp; omega
                    clear hq2 hd2 n10 HM
                    go_wp2_with fail
                    go_round
                    case rel => exact ⟨m + 1, ⟨by omega, by omega⟩, by go_num, HN, Lib.hid fun _ _ => by omega⟩
                    case measure => simp [intOf]; omega
                · rw [drop_end s m (by omega)] at HM
                  have HN := Lib.hid (show m + skipL false (s.data.toList.drop m) = r by rw [drop_end s m (by omega)]; exact HM.out)
                  clear HM
                  go_wp2_with fail
                  go_round
                  case rel => exact ⟨m, by omega, by go_num, HN⟩
                  case measure => simp [intOf]; omega
            · have h0 : skipL false (s[k] :: s.data.toList.drop (k + 1)) = 0 := skip_no n1 n2 n3 fun _ d hd' => by rw [hd1] at hd'; cases hd'; exact h48
              rw [h0] at hq
              have HE := Lib.hid (show r = k from hq.symm)
              have e4 : ((s[k].toNat : Int) == 47) = true := by simp; omega
              have e5 : ((s[k + 1].toNat : Int) == 47) = false := by simp; omega
              have hk1' : (k : Int) + 1 < (s.size : Int) := by omega
              clear hd hq hd1 h32 h47 h48 hc n1 n2 n3 HQ h0
              go_wp2_with fail
              go_ret
              exact ⟨by rw [HE.out] <;> rfl, rfl⟩
          · have h0 : skipL false (s[k] :: s.data.toList.drop (k + 1)) = 0 := skip_no n1 n2 n3 fun _ d hd' => by rw [drop_end s (k + 1) (by omega)] at hd'; cases hd'
            rw [h0] at hq
            have HE := Lib.hid (show r = k from hq.symm)
            have e4 : ((s[k].toNat : Int) == 47) = true := by simp; omega
            clear hd hq h32 h47 hc n1 n2 n3 HQ h0
            go_wp2_with fail
            go_ret
            exact ⟨by rw [HE.out] <;> rfl, rfl⟩
        · have h0 : skipL false (s[k] :: s.data.toList.drop (k + 1)) = 0 := skip_no n1 n2 n3 fun h => absurd h h47
          rw [h0] at hq
          have HE := Lib.hid (show r = k from hq.symm)
          have e4 : ((s[k].toNat : Int) == 47) = false := by simp; omega
          clear hd hq h32 h47 hc n1 n2 n3 HQ h0
          go_wp2_with fail
          go_ret
          exact ⟨by rw [HE.out] <;> rfl, rfl⟩
    · rw [drop_end s k (by omega)] at HQ
      have HE := Lib.hid (show r = k from HQ.out.symm)
      clear HQ
      go_wp2_with fail
      go_ret
      exact ⟨by rw [HE.out] <;> rfl, rfl⟩
end Go.Proofs.YtiagagljghoacaaDoor.Lx
