/- DERIVED. Contracts of the program's number, pieces, Words. By an AI agent. -/
import Derived.Test.YtgcmbleinobneaaIpLive
import Derived.Test.YtgcmbleinobneaaImSpec
namespace Go.Proofs.Ytgcmbleinobneaa.Ip
open Go.ChangeShapes Go.WideShapes Go.ChangeAt Go.RowKit Args ImRef
set_option linter.unusedVariables false
theorem join_u32 (k : Nat) (hk : k < 4) (n x : Int) (n0 : 0 ≤ n) (n1 : n < 256 ^ k) (x0 : 0 ≤ x) (x1 : x < 256) : bits .or .u32 n (x * 2 ^ (8 * k) % 4294967296) = n + x * 256 ^ k := by
  obtain ⟨N, rfl⟩ := Int.eq_ofNat_of_zero_le n0
  obtain ⟨X, rfl⟩ := Int.eq_ofNat_of_zero_le x0
  have h4 : k = 0 ∨ k = 1 ∨ k = 2 ∨ k = 3 := by omega
  rcases h4 with rfl | rfl | rfl | rfl
  · have n2 : N < 1 := by simp at n1; omega
    have e : (X : Int) * 2 ^ (8 * 0) % 4294967296 = ((X * 1 : Nat) : Int) := by simp; omega
    rw [e, u32_or_nat N (X * 1) (by omega) (by omega), Nat.or_comm, nat_join 0 (X * 1) N (by omega) (by omega)]
    simp; omega
  · have n2 : N < 256 := by simp at n1; omega
    have e : (X : Int) * 2 ^ (8 * 1) % 4294967296 = ((X * 256 : Nat) : Int) := by simp; omega
    rw [e, u32_or_nat N (X * 256) (by omega) (by omega), Nat.or_comm, nat_join 8 (X * 256) N (by omega) (by omega)]
    simp; omega
  · have n2 : N < 65536 := by simp at n1; omega
    have e : (X : Int) * 2 ^ (8 * 2) % 4294967296 = ((X * 65536 : Nat) : Int) := by simp; omega
    rw [e, u32_or_nat N (X * 65536) (by omega) (by omega), Nat.or_comm, nat_join 16 (X * 65536) N (by omega) (by omega)]
    simp; omega
  · have n2 : N < 16777216 := by simp at n1; omega
    have e : (X : Int) * 2 ^ (8 * 3) % 4294967296 = ((X * 16777216 : Nat) : Int) := by simp; omega
    rw [e, u32_or_nat N (X * 16777216) (by omega) (by omega), Nat.or_comm, nat_join 24 (X * 16777216) N (by omega) (by omega)]
    simp; omega
theorem number (A : Option Addr) (cap : Nat) (xs : List Int) (w : World) (hR : Lies w A (xs.map (.int .u8))) (h4 : xs.length ≤ 4) (hx : ∀ z ∈ xs, 0 ≤ z ∧ z < 256) :
    Calls Try.prog 36 #[.slice A xs.length cap] w fun e w' => e = .returned (.int .u32 (numL xs)) ∧ w = w' := by
  have HR := Lib.hid hR; have HX := Lib.hid hx
  clear hR hx
  go_enter Try.func36, Try.ntmps36
  go_wp2_with fail
  go_loop [3, 8] (fun vn vi => ∃ (k : Nat) (n : Int), k ≤ xs.length ∧ vi = .int .i64 k ∧ vn = .int .u32 n ∧ 0 ≤ n ∧ Hid (n = numL (xs.take k) ∧ n < 256 ^ k)) (fun _ vi => xs.length - (intOf vi).toNat)
  case atStart => exact ⟨0, 0, by omega, rfl, rfl, by omega, Lib.hid ⟨rfl, by decide⟩⟩
  case round =>
    obtain ⟨k, n, hk, rfl, rfl, hn0, HH⟩ := hrel
    by_cases hlt : k < xs.length
    · obtain ⟨x, hx⟩ : ∃ x, xs[k]? = some x := ⟨_, List.getElem?_eq_getElem hlt⟩
      obtain ⟨x0, x1⟩ := HX.out x (List.mem_of_getElem? hx)
      have f1 : (xs.map (Value.int .u8))[k]? = some (.int .u8 x) := by simp [hx]
      obtain ⟨b, o, rfl, hb, hcell⟩ := HR.out.at_ f1
      have c1 := hcell _ _ f1
      have htk : xs.take (k + 1) = xs.take k ++ [x] := by
        rw [List.take_add_one, hx]; rfl
      have hjoin := join_u32 k (by omega) n x hn0 HH.out.2 x0 x1
      have hnx : n + x * 256 ^ k = numL (xs.take (k + 1)) := by rw [htk, numL_snoc, List.length_take, Nat.min_eq_left (by omega), ← HH.out.1]
      have hbd := numL_bd (xs.take (k + 1)) fun z hz => HX.out z (List.mem_of_mem_take hz)
      rw [List.length_take, Nat.min_eq_left (by omega)] at hbd
      have HJ := Lib.hid (hjoin.trans hnx); have HBD := Lib.hid hbd
      clear hx f1 hcell htk hjoin hnx hbd
      go_wp2_with fail
      go_round
      case rel => exact ⟨k + 1, _, by omega, by go_num, rfl, by rw [HJ.out]; exact HBD.out.1, Lib.hid ⟨HJ.out, by rw [HJ.out]; exact HBD.out.2⟩⟩
      case measure => simp [intOf]; omega
    · have hkl : xs.length ≤ k := by omega
      have he : n = numL xs := by rw [HH.out.1, List.take_of_length_le hkl]
      have HE := Lib.hid he
      clear he
      go_wp2_with fail
      go_ret
      exact ⟨by rw [HE.out]; rfl, rfl⟩
end Go.Proofs.Ytgcmbleinobneaa.Ip
