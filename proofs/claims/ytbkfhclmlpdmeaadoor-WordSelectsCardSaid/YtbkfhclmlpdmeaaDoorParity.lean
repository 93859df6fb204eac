/- DERIVED. Contracts on the number of ones being odd: package word's and the reference's. By an AI agent. -/
import Derived.Test.YtbkfhclmlpdmeaaDoorRef
import Derived.Lib.Tables
import Derived.Lib.Walk
import Derived.Lib.ItoaWalk
namespace Go.Proofs.YtbkfhclmlpdmeaaDoor.Ref
open Go.ChangeShapes Go.WideShapes Go.ChangeAt Go.RowKit WMath Word
set_option linter.unusedVariables false
theorem m255 (n : Nat) (hn : n < 4294967296) : Go.bits BinOp.and IntKind.u32 (n : Int) 255 = ((n % 256 : Nat) : Int) := by
  have h := b_and (BitVec.ofNat 32 n) 255#32
  rw [BitVec.toNat_and, BitVec.toNat_ofNat, Nat.mod_eq_of_lt (by omega), show (255#32).toNat = 255 from rfl] at h
  rw [show ((255 : Nat) : Int) = 255 from rfl] at h
  rw [h]
  congr 1
  exact Nat.and_two_pow_sub_one_eq_mod n 8
/-- How many ones a byte has, by the library's table. -/
def pn (b : Nat) : Nat := ((Lib.pop8tab[b]?).getD 0).toNat
theorem pn_le (b : Nat) (hb : b < 256) : pn b ≤ 8 := by
  have : ∀ i : Fin 256, pn i.val ≤ 8 := by decide +kernel
  exact this ⟨b, hb⟩
def xor8 (b : Nat) : Bool := (b.testBit 0 != (b.testBit 1 != (b.testBit 2 != (b.testBit 3 != (b.testBit 4 != (b.testBit 5 != (b.testBit 6 != b.testBit 7)))))))
theorem pn_odd (b : Nat) (hb : b < 256) : decide (pn b % 2 = 1) = xor8 b := by
  have : ∀ i : Fin 256, decide (pn i.val % 2 = 1) = xor8 i.val := by decide +kernel
  exact this ⟨b, hb⟩
theorem idx_pop (b : Nat) (hb : b < 256) (w : World) : (Instr.index 9 (.string Lib.pop8tab) (.int .u32 (b : Int))).run Tryd.prog w = .ok (.int .u8 ((pn b : Nat) : Int)) w :=
  Lib.run_index_pop8tab w 9 .u32 b Tryd.underlying9 (by omega) (by omega)
set_option maxHeartbeats 400000 in
theorem ones (a : BitVec 32) (w : World) : Calls Tryd.prog 31 #[u a] w fun e w' =>
    e = .returned (.int .i64 ((pn (a.toNat / 16777216) + pn (a.toNat / 65536 % 256) + pn (a.toNat / 256 % 256) + pn (a.toNat % 256) : Nat) : Int)) ∧ ∃ n, w' = w.drewN n := by
  have hlt := a.isLt
  have e0 := m255 a.toNat (by omega)
  have e1 := m255 (a.toNat / 256) (by omega)
  have e2 := m255 (a.toNat / 65536) (by omega)
  have e3 : (a.toNat : Int) / 16777216 = ((a.toNat / 16777216 : Nat) : Int) := by omega
  rw [show ((a.toNat / 256 : Nat) : Int) = (a.toNat : Int) / 256 by omega] at e1
  rw [show ((a.toNat / 65536 : Nat) : Int) = (a.toNat : Int) / 65536 by omega] at e2
  have g0 : a.toNat % 256 < 256 := by omega
  have g1 : a.toNat / 256 % 256 < 256 := by omega
  have g2 : a.toNat / 65536 % 256 < 256 := by omega
  have g3 : a.toNat / 16777216 < 256 := by omega
  generalize a.toNat % 256 = b0 at *
  generalize a.toNat / 256 % 256 = b1 at *
  generalize a.toNat / 65536 % 256 = b2 at *
  generalize a.toNat / 16777216 = b3 at *
  have i0 := idx_pop b0 g0; have i1 := idx_pop b1 g1; have i2 := idx_pop b2 g2; have i3 := idx_pop b3 g3
  have p0 := pn_le b0 g0; have p1 := pn_le b1 g1; have p2 := pn_le b2 g2; have p3 := pn_le b3 g3
  generalize pn b0 = n0 at *
  generalize pn b1 = n1 at *
  generalize pn b2 = n2 at *
  generalize pn b3 = n3 at *
  have h2 := bd a
  clear g0 g1 g2 g3 hlt
  go_enter Tryd.func31, Tryd.ntmps31
  go_name_bytes SM hSM
  have eSM : SM = Lib.pop8tab := by rw [← hSM]; decide +kernel
  subst eSM
  clear hSM
  go_wp2
  go_quiet (fail)
  go_wp2
  go_ret
  exact ⟨by go_num, _, rfl⟩
/-- Whether the number of ones among the first k bits is odd. -/
def parTo (a : BitVec 32) : Nat → Bool
  | 0 => false
  | k + 1 => parTo a k != a.getLsbD k
theorem odd_add (p q : Nat) : decide ((p + q) % 2 = 1) = (decide (p % 2 = 1) != decide (q % 2 = 1)) := by
  have hp : p % 2 = 0 ∨ p % 2 = 1 := by omega
  have hq : q % 2 = 0 ∨ q % 2 = 1 := by omega
  rw [Nat.add_mod]
  rcases hp with hp | hp <;> rcases hq with hq | hq <;> simp [hp, hq]
theorem tb (a : BitVec 32) (s j : Nat) (hj : j < 8) : (a.toNat / 2 ^ s % 256).testBit j = a.getLsbD (s + j) := by
  rw [show 256 = 2 ^ 8 by decide, Nat.testBit_mod_two_pow, Nat.testBit_div_two_pow, BitVec.testBit_toNat]
  simp [hj, Nat.add_comm]
theorem bool9 : ∀ p a b c d e f g h : Bool, ((((((((p != a) != b) != c) != d) != e) != f) != g) != h) = (p != (a != (b != (c != (d != (e != (f != (g != h)))))))) := by decide
theorem par8 (a : BitVec 32) (k : Nat) : parTo a (k + 8) = (parTo a k != xor8 (a.toNat / 2 ^ k % 256)) := by
  simp only [xor8, tb _ _ _ (show 0 < 8 by decide), tb _ _ _ (show 1 < 8 by decide), tb _ _ _ (show 2 < 8 by decide), tb _ _ _ (show 3 < 8 by decide), tb _ _ _ (show 4 < 8 by decide), tb _ _ _ (show 5 < 8 by decide), tb _ _ _ (show 6 < 8 by decide), tb _ _ _ (show 7 < 8 by decide)]
  rw [← bool9]
  rfl
theorem bool4 : ∀ p q r s : Bool, (((p != q) != r) != s) = ((((false != s) != r) != q) != p) := by decide
theorem ones_odd (a : BitVec 32) : decide ((pn (a.toNat / 16777216) + pn (a.toNat / 65536 % 256) + pn (a.toNat / 256 % 256) + pn (a.toNat % 256)) % 2 = 1) = parTo a 32 := by
  have hlt := a.isLt
  rw [odd_add, odd_add, odd_add, pn_odd _ (by omega), pn_odd _ (by omega), pn_odd _ (by omega), pn_odd _ (by omega)]
  have h3 : a.toNat / 16777216 = a.toNat / 2 ^ 24 % 256 := by omega
  have h2 : a.toNat / 65536 % 256 = a.toNat / 2 ^ 16 % 256 := by omega
  have h1 : a.toNat / 256 % 256 = a.toNat / 2 ^ 8 % 256 := by omega
  have h0 : a.toNat % 256 = a.toNat / 2 ^ 0 % 256 := by omega
  have e4 : parTo a 32 = (parTo a 24 != xor8 (a.toNat / 2 ^ 24 % 256)) := par8 a 24
  have e3 : parTo a 24 = (parTo a 16 != xor8 (a.toNat / 2 ^ 16 % 256)) := par8 a 16
  have e2 : parTo a 16 = (parTo a 8 != xor8 (a.toNat / 2 ^ 8 % 256)) := par8 a 8
  have e1 : parTo a 8 = (false != xor8 (a.toNat / 2 ^ 0 % 256)) := par8 a 0
  rw [h3, h2, h1, h0, e4, e3, e2, e1, bool4]
theorem parC (a : BitVec 32) (w : World) : Calls Tryd.prog 18 #[u a] w fun e w' => e = .returned (.bool (parTo a 32)) ∧ ∃ n, w' = w.drewN n := by
  have ho := ones_odd a
  have h1 := pn_le (a.toNat / 16777216) (by have := a.isLt; omega)
  have h2 := pn_le (a.toNat / 65536 % 256) (by omega)
  have h3 := pn_le (a.toNat / 256 % 256) (by omega)
  have h4 := pn_le (a.toNat % 256) (by omega)
  have hc := ones a w
  generalize pn (a.toNat / 16777216) + pn (a.toNat / 65536 % 256) + pn (a.toNat / 256 % 256) + pn (a.toNat % 256) = s at ho hc
  have HO := Lib.hid ho
  have HC := Lib.hid hc
  clear ho hc h1 h2 h3 h4
  go_enter Tryd.func18, Tryd.ntmps18
  go_wp2_with fail
  refine HC.out.mono ?_; rintro e w' ⟨rfl, n, rfl⟩
  go_wp2
  go_ret
  refine ⟨?_, n, rfl⟩
  rw [← HO.out]
  show Ending.returned (.bool ((s : Int) % 2 == 1)) = _
  congr 2
  rw [Bool.eq_iff_iff]; simp; omega
theorem parTo_xor (a b : BitVec 32) (k : Nat) : parTo (a ^^^ b) k = (parTo a k != parTo b k) := by
  induction k with
  | zero => rfl
  | succ k ih =>
    simp only [parTo, ih, BitVec.getLsbD_xor]
    cases parTo a k <;> cases parTo b k <;> cases a.getLsbD k <;> cases b.getLsbD k <;> rfl
set_option maxHeartbeats 800000 in
theorem rparC (a : BitVec 32) (w : World) : Calls Tryd.prog 19 #[u a] w fun e w' => e = .returned (.bool (parTo a 32)) ∧ Below w.heap.size w w' := by
  go_enter Tryd.func19, Tryd.ntmps19
  go_wp2_with fail
  refine (bitsC a _).mono ?_; rintro e w1 ⟨g, cap, rfl, hcap, hmx, hg, hg1, hc, hb⟩
  have HC := Lib.hid hc
  have HB := Lib.hid hb
  clear hc hb
  go_wp2
  go_loop [3, 5] (fun vo vi => ∃ k : Nat, k ≤ 32 ∧ vi = .int .i64 k ∧ vo = .bool (parTo a k)) (fun _ vi => 32 - (intOf vi).toNat)
  case atStart => exact ⟨0, by omega, rfl, rfl⟩
  case round =>
    obtain ⟨k, hk, rfl, rfl⟩ := hrel
    by_cases hlt : k < 32
    · have hcell := HC.out k hlt
      have hst : parTo a (k + 1) = (parTo a k != a.getLsbD k) := rfl
      generalize a.getLsbD k = bk at hst hcell
      generalize parTo a k = pk at hst ⊢
      have HS := Lib.hid hst
      clear hst
      go_wp2
      go_round
      case rel => exact ⟨k + 1, by omega, by go_num, by rw [HS.out]; cases pk <;> cases bk <;> rfl⟩
      case measure => simp [intOf]; omega
    · go_wp2
      have : k = 32 := by omega
      subst this
      go_ret
      exact ⟨rfl, HB.out⟩
end Go.Proofs.YtbkfhclmlpdmeaaDoor.Ref
