/- DERIVED. The reference's Hex; the walk of the law that each word's text is read as the word. By an AI agent. -/
import Derived.Test.YtbkfhclmlpdmeaaDoorNum3
namespace Go.Proofs.YtbkfhclmlpdmeaaDoor.Hexes
open Go.ChangeShapes Go.WideShapes Go.ChangeAt Go.RowKit WMath Word Lives Num
set_option linter.unusedVariables false
/-- The lowest k digits of a number in base 16. -/
def fixD (n : Nat) : Nat → List UInt8
  | 0 => []
  | k + 1 => hexd (n / 16 ^ k % 16) :: fixD n k
theorem fixD_len (n k : Nat) : (fixD n k).length = k := by
  induction k with
  | zero => rfl
  | succ k ih => simp [fixD, ih]
theorem fixD_last (n k : Nat) : fixD n (k + 1) = fixD (n / 16) k ++ [hexd (n % 16)] := by
  induction k with
  | zero => simp [fixD]
  | succ k ih =>
    rw [fixD, ih, fixD, Nat.div_div_eq_div_mul, Nat.pow_succ, Nat.mul_comm (16 ^ k) 16]
    rfl
theorem fixD_small (n k : Nat) (hn : n < 16) : fixD n (k + 1) = List.replicate k 48 ++ [hexd n] := by
  induction k with
  | zero => simp [fixD, Nat.mod_eq_of_lt hn]
  | succ k ih =>
    rw [fixD, ih, List.replicate_succ, Nat.div_eq_of_lt (Nat.lt_of_lt_of_le hn (Nat.pow_le_pow_right (n := 16) (by decide) (by omega : 1 ≤ k + 1)))]
    rfl
theorem hexF_fix (f n : Nat) (acc : List UInt8) (hn : n < 16 ^ (f + 1)) :
    List.replicate (f + 1 + acc.length - (hexF f n acc).length) 48 ++ hexF f n acc = fixD n (f + 1) ++ acc := by
  induction f generalizing n acc with
  | zero =>
    rw [fixD_small n 0 (by omega)]
    simp [hexF]
    omega
  | succ f ih =>
    unfold hexF
    split
    · rename_i h
      rw [fixD_small n (f + 1) h]
      simp
      omega
    · rename_i h
      have h2 := ih (n / 16) (hexd (n % 16) :: acc) (Nat.div_lt_of_lt_mul (by rw [Nat.pow_succ] at hn; omega))
      rw [fixD_last, List.append_assoc, List.singleton_append, ← h2]
      congr 2
      simp; omega
theorem hex8_fix (a : Nat) (ha : a < 4294967296) : hex8 a = [48, 120] ++ fixD a 8 := by
  unfold hex8
  have h := hexF_fix 7 a [] (by omega)
  rw [List.append_nil] at h
  rw [← h]
  rfl
theorem dv_hexd (r : Nat) (hr : r < 16) : dvN (hexd r).toNat = r := by
  have : ∀ i : Fin 16, dvN (hexd i.val).toNat = i.val := by decide
  exact this ⟨r, hr⟩
theorem nrun_fix (a k m : Nat) (hm : (m + 1) * 16 ^ k ≤ 4294967296) : nrun 16 (fixD a k) m = some (m * 16 ^ k + a % 16 ^ k) := by
  induction k generalizing m with
  | zero => simp [fixD, nrun, Nat.mod_one]
  | succ k ih =>
    have hd : a / 16 ^ k % 16 < 16 := by omega
    rw [fixD, nrun, dv_hexd _ hd, if_pos hd]
    have hp : 0 < 16 ^ k := Nat.pow_pos (by decide)
    have h1 : (m * 16 + a / 16 ^ k % 16 + 1) * 16 ^ k ≤ 4294967296 := by
      refine Nat.le_trans (Nat.mul_le_mul_right _ (by omega : _ ≤ (m + 1) * 16)) ?_
      rw [Nat.pow_succ] at hm
      rw [Nat.mul_assoc, Nat.mul_comm 16]
      exact hm
    have h2 : m * 16 + a / 16 ^ k % 16 + 1 ≤ 4294967296 := Nat.le_trans (Nat.le_mul_of_pos_right _ hp) h1
    rw [Nat.min_eq_left (by omega), ih _ h1]
    congr 1
    rw [Nat.mod_pow_succ, Nat.pow_succ, Nat.add_mul, Nat.mul_assoc m 16, Nat.mul_comm 16 (16 ^ k), Nat.mul_comm (a / 16 ^ k % 16)]
    omega
theorem numR_fix (a : Nat) (ha : a < 4294967296) : numR 16 (fixD a 8) = (a, 0) := by
  have h := nrun_fix a 8 0 (by decide)
  rw [Nat.mod_eq_of_lt (by omega), Nat.zero_mul, Nat.zero_add] at h
  rw [numR_some' 16 _ a (by rw [fixD]; simp) h, if_neg (by omega)]
def D16 : ByteArray := ⟨#[48, 49, 50, 51, 52, 53, 54, 55, 56, 57, 97, 98, 99, 100, 101, 102]⟩
theorem d16_at (r : Nat) (hr : r < 16) : D16.extract r (r + 1) = ⟨#[hexd r]⟩ := by
  have : ∀ i : Fin 16, D16.extract i.val (i.val + 1) = ⟨#[hexd i.val]⟩ := by decide
  exact this ⟨r, hr⟩
set_option maxHeartbeats 800000 in
theorem rhexC (a : Nat) (ha : a < 4294967296) (w : World) : Calls Tryd.prog 23 #[.int .u32 a] w fun e w' => e = .returned (.string ⟨([48, 120] ++ fixD a 8).toArray⟩) ∧ w = w' := by
  go_enter Tryd.func23, Tryd.ntmps23
  go_wp2
  go_loop [0, 3, 4] (fun va vs vi => ∃ k n : Nat, k ≤ 8 ∧ vi = .int .i64 k ∧ va = .int .u32 n ∧ Hid (n = a / 16 ^ k) ∧ vs = .string ⟨(fixD a k).toArray⟩) (fun _ _ vi => 8 - (intOf vi).toNat)
  case atStart => exact ⟨0, a, by omega, rfl, rfl, Lib.hid (by simp), rfl⟩
  case round =>
    obtain ⟨k, n, hk, rfl, rfl, HN, rfl⟩ := hrel
    by_cases hlt : k < 8
    · have hn : n < 4294967296 := by have := HN.out; have := Nat.div_le_self a (16 ^ k); omega
      have hr : n % 16 < 16 := by omega
      have hx := d16_at (n % 16) hr
      have hst : fixD a (k + 1) = hexd (a / 16 ^ k % 16) :: fixD a k := rfl
      rw [← HN.out] at hst
      have hl : (fixD a k).length ≤ 8 := by rw [fixD_len]; omega
      generalize fixD a k = L at hst hl ⊢
      have HS := Lib.hid hst; have HX := Lib.hid hx
      clear hst hx
      go_wp2
      go_round
      case rel => exact ⟨k + 1, n / 16, by omega, by go_num, rfl, Lib.hid (by rw [HN.out, Nat.pow_succ, Nat.div_div_eq_div_mul]), by
        show Value.string (D16.extract (n % 16) (n % 16 + 1) ++ ⟨L.toArray⟩) = _
        rw [HX.out, HS.out]
        congr 1⟩
      case measure => simp [intOf]; omega
    · have : k = 8 := by omega
      subst this
      have hl : (fixD a 8).length ≤ 8 := by rw [fixD_len]; omega
      generalize hL : fixD a 8 = L at hl ⊢
      have HL := Lib.hid hL
      clear hL
      go_wp2
      go_ret
      refine ⟨?_, rfl⟩
      rw [HL.out]
      show Ending.returned (.string (ByteArray.mk #[48, 120] ++ ⟨L.toArray⟩)) = _
      congr 2
end Go.Proofs.YtbkfhclmlpdmeaaDoor.Hexes
namespace Go.Proofs.YtbkfhclmlpdmeaaDoor
open Go.ChangeShapes Go.WideShapes Go.ChangeAt Go.RowKit WMath Word Lives Num Hexes
set_option linter.unusedVariables false
set_option maxHeartbeats 800000 in
theorem wordHexes.walk (a0 : Int) (w0 : (Lit.int .u32 a0).wf = true) (W : World) (hL : Lv W) :
    Calls Tryd.prog 7 #[.int .u32 a0] W fun e w' => e = .returned (.bool true) ∧ Below W.heap.size W w' := by
  have b0 := bounds_u32 w0
  obtain ⟨a, rfl⟩ := Int.eq_ofNat_of_zero_le b0.1
  have ha : a < 4294967296 := by omega
  have HL := Lib.hid hL
  clear hL w0 b0
  have c1 := hex a ha W HL.out.1 HL.out.2
  rw [hex8_fix a ha] at c1
  have c3 := rhexC a ha
  have hD : Lib.trimPrefix ([48, 120] ++ fixD a 8) [48, 120] = fixD a 8 := by
    unfold Lib.trimPrefix
    rw [show Lib.hasPrefix ([48, 120] ++ fixD a 8) [48, 120] = true by simp [Lib.hasPrefix, List.isPrefixOf]]
    rfl
  have c2 := fun w => numC true ⟨([48, 120] ++ fixD a 8).toArray⟩ ⟨(fixD a 8).toArray⟩ w (by simp [Lib.hasPrefix, List.isPrefixOf]) (by
      show ByteArray.mk (Lib.trimPrefix ([48, 120] ++ fixD a 8) [48, 120]).toArray = _
      rw [hD]) (by show (fixD a 8).toArray.size ≤ maxLen; rw [List.size_toArray, fixD_len]; decide)
  have e2 : numR (if true = true then 16 else 10) (⟨(fixD a 8).toArray⟩ : ByteArray).data.toList = (a, 0) := numR_fix a ha
  rw [e2] at c2
  simp only [resN] at c2
  generalize ((⟨([48, 120] ++ fixD a 8).toArray⟩ : ByteArray)) = s at c1 c2 c3
  have C1 := Lib.hid c1; have C2 := Lib.hid c2; have C3 := Lib.hid c3
  clear c1 c2 c3 hD e2
  go_enter Tryd.func7, Tryd.ntmps7
  go_wp2_with fail
  refine C1.out.mono ?_; rintro e w1 ⟨rfl, hb1⟩
  go_wp2_with fail
  refine (C2.out _).mono ?_; rintro e w2 ⟨rfl, rfl⟩
  go_wp2_with fail
  refine (C3.out _).mono ?_; rintro e w2 ⟨rfl, rfl⟩
  go_wp2_with (go_at_call 13; refine (lives _ (HL.out.below hb1)).mono ?_; rintro e w' ⟨rfl, hb⟩)
  go_ret
  exact ⟨rfl, hb1.trans (hb.mono hb1.size)⟩
end Go.Proofs.YtbkfhclmlpdmeaaDoor
