/- DERIVED. Contracts of the program's fields: where the number is, the mask, what is put and what is taken. By an AI agent. -/
import Derived.Test.YtkipfeljpngkeaaDoorTpTab
import Derived.Test.YtkipfeljpngkeaaDoorThRef
import Derived.Lib.QuietBelow
import Derived.Deep.RegionHeld3
import Derived.Laws.Bits64b
namespace Go.Proofs.YtkipfeljpngkeaaDoor.Tp
open Go.ChangeShapes Go.WideShapes Go.ChangeAt Go.RowKit Go.Sort
set_option linter.unusedVariables false
abbrev fagg (f : Fld) : Value := .agg #[.int .i64 f.of, .int .u64 f.low, .int .u64 f.wid, .int .i64 f.least, .int .i64 f.most]
theorem number (f : Fld) (b : Nat) (w : World) : Calls Tryd.prog 50 #[fagg f, .pointer (some ⟨b, 0, none⟩)] w fun e w' => e = .returned (.pointer (some ⟨b, 1 + min f.of 3, none⟩)) ∧ Below w.heap.size w w' := by
  obtain ⟨of, low, wid, least, most⟩ := f
  by_cases h0 : of = 0
  · subst h0
    go_enter Tryd.func50, Tryd.ntmps50
    go_wp2
    go_ret
    exact ⟨rfl, (Below.refl _ _).alloc (Nat.le_refl _) _⟩
  by_cases h1 : of = 1
  · subst h1
    go_enter Tryd.func50, Tryd.ntmps50
    go_wp2
    go_ret
    exact ⟨rfl, (Below.refl _ _).alloc (Nat.le_refl _) _⟩
  by_cases h2 : of = 2
  · subst h2
    go_enter Tryd.func50, Tryd.ntmps50
    go_wp2
    go_ret
    exact ⟨rfl, (Below.refl _ _).alloc (Nat.le_refl _) _⟩
  have e : 1 + min of 3 = 4 := by omega
  have e0 : ((of : Int) == 0) = false := by simp; omega
  have e1 : ((of : Int) == 1) = false := by simp; omega
  have e2 : ((of : Int) == 2) = false := by simp; omega
  have E := Lib.hid e
  clear h0 h1 h2 e
  go_enter Tryd.func50, Tryd.ntmps50
  go_wp2
  go_ret
  exact ⟨by show _ = Ending.returned (.pointer (some ⟨b, 1 + min of 3, none⟩)); rw [E.out]; rfl, (Below.refl _ _).alloc (Nat.le_refl _) _⟩
theorem pow_wrap (wid : Nat) (h : wid ≤ 11) : wrap64 (wrap64 (2 ^ wid) - 1) = ((2 ^ wid - 1 : Nat) : Int) := by
  have : ∀ i : Fin 12, wrap64 (wrap64 (2 ^ i.val) - 1) = ((2 ^ i.val - 1 : Nat) : Int) := by decide +kernel
  exact this ⟨wid, by omega⟩
theorem mask (f : Fld) (h : f.wid ≤ 11) (w : World) : Calls Tryd.prog 59 #[fagg f] w fun e w' => e = .returned (.int .i64 ((2 ^ f.wid - 1 : Nat) : Int)) ∧ Below w.heap.size w w' := by
  obtain ⟨of, low, wid, least, most⟩ := f
  have hp := pow_wrap wid h
  have HP := Lib.hid hp
  clear hp
  have h' : wid ≤ 11 := h
  go_enter Tryd.func59, Tryd.ntmps59
  go_wp2
  go_ret
  refine ⟨?_, (Below.refl _ _).alloc (Nat.le_refl _) _⟩
  rw [← HP.out]; rfl
theorem pow_le (w : Nat) (hw : w ≤ 11) : 2 ^ w ≤ 2048 := Nat.le_trans (Nat.pow_le_pow_right (by decide) hw) (by decide)
theorem and_mask (n : Int) (w : Nat) (hw : w ≤ 11) : bits .and .i64 n ((2 ^ w - 1 : Nat) : Int) = n % ((2 ^ w : Nat) : Int) := by
  have hp := pow_le w hw
  have hp0 : 0 < 2 ^ w := Nat.two_pow_pos w
  have e : (BitVec.ofInt 64 n &&& BitVec.ofInt 64 ((2 ^ w - 1 : Nat) : Int)).toNat = (n % ((2 ^ w : Nat) : Int)).toNat := by
    rw [BitVec.toNat_and, BitVec.toNat_ofInt, BitVec.toNat_ofInt]
    have h2 : (((2 ^ w - 1 : Nat) : Int) % ((2 ^ 64 : Nat) : Int)).toNat = 2 ^ w - 1 := by
      rw [Int.emod_eq_of_lt (by omega) (by omega)]; omega
    rw [h2, Nat.and_two_pow_sub_one_eq_mod]
    have hd : ((2 ^ w : Nat) : Int) ∣ ((2 ^ 64 : Nat) : Int) := Int.natCast_dvd_natCast.2 (Nat.pow_dvd_pow 2 (by omega))
    have h3 : (n % ((2 ^ 64 : Nat) : Int)) % ((2 ^ w : Nat) : Int) = n % ((2 ^ w : Nat) : Int) := Int.emod_emod_of_dvd n hd
    rw [← h3]
    have h0 : 0 ≤ n % ((2 ^ 64 : Nat) : Int) := Int.emod_nonneg _ (by decide)
    generalize n % ((2 ^ 64 : Nat) : Int) = m at h0
    obtain ⟨k, rfl⟩ := Int.eq_ofNat_of_zero_le h0
    rw [← Int.natCast_emod, Int.toNat_natCast, Int.toNat_natCast]
  show IntKind.i64.wrap ((BitVec.ofInt 64 n &&& BitVec.ofInt 64 ((2 ^ w - 1 : Nat) : Int)).toNat : Int) = _
  rw [e]
  have h0 : 0 ≤ n % ((2 ^ w : Nat) : Int) := Int.emod_nonneg _ (by omega)
  have h1 : n % ((2 ^ w : Nat) : Int) < ((2 ^ w : Nat) : Int) := Int.emod_lt_of_pos _ (by omega)
  rw [Int.toNat_of_nonneg h0]
  exact IntWalk.i64_in _ (by omega)
/-- What a field puts, and takes. -/
def putN (f : Fld) (n : Int) : Nat := (n % ((2 ^ f.wid : Nat) : Int)).toNat * 2 ^ f.low
def takeN (f : Fld) (h : Nat) : Int := f.least + (((h / 2 ^ f.low : Nat) : Int) - f.least) % ((2 ^ f.wid : Nat) : Int)
theorem put_wrap (n : Int) (wid low : Nat) (h : wid ≤ 11) (hl : wid + low ≤ 16) :
    IntKind.u16.wrap (IntKind.u16.wrap (n % ((2 ^ wid : Nat) : Int)) * 2 ^ low) = (((n % ((2 ^ wid : Nat) : Int)).toNat * 2 ^ low : Nat) : Int) := by
  have hp := pow_le wid h
  have h0 : 0 ≤ n % ((2 ^ wid : Nat) : Int) := Int.emod_nonneg _ (by have := Nat.two_pow_pos wid; omega)
  have h1 : n % ((2 ^ wid : Nat) : Int) < ((2 ^ wid : Nat) : Int) := Int.emod_lt_of_pos _ (by have := Nat.two_pow_pos wid; omega)
  generalize n % ((2 ^ wid : Nat) : Int) = m at h0 h1
  obtain ⟨k, rfl⟩ := Int.eq_ofNat_of_zero_le h0
  have hk : k < 2 ^ wid := by omega
  have hlt : k * 2 ^ low < 65536 := by
    have e : 2 ^ wid * 2 ^ low ≤ 2 ^ 16 := by rw [← Nat.pow_add]; exact Nat.pow_le_pow_right (by decide) hl
    exact Nat.lt_of_lt_of_le (Nat.mul_lt_mul_of_pos_right hk (Nat.two_pow_pos low)) e
  have e1 : ((k : Int) * 2 ^ low) = ((k * 2 ^ low : Nat) : Int) := by rw [Int.natCast_mul, Int.natCast_pow]; rfl
  rw [IntKind.wrap_u16, IntKind.wrap_u16, show (k : Int) % 65536 = k by omega, e1, Int.toNat_natCast]
  omega
theorem take_wrap (n wid low : Nat) (least : Int) (hn : n < 65536) (h : wid ≤ 11) (hl : low ≤ 15) (h0 : -1024 ≤ least) (h1 : least ≤ 1) :
    wrap64 (least + wrap64 (wrap64 ((n : Int) / 2 ^ low) - least) % ((2 ^ wid : Nat) : Int)) = least + (((n / 2 ^ low : Nat) : Int) - least) % ((2 ^ wid : Nat) : Int) := by
  have hp := pow_le wid h
  have e : ((n : Int) / 2 ^ low) = ((n / 2 ^ low : Nat) : Int) := by rw [Int.natCast_ediv, Int.natCast_pow]; rfl
  rw [e]
  have hq : n / 2 ^ low ≤ n := Nat.div_le_self _ _
  generalize n / 2 ^ low = q at hq
  rw [IntWalk.wrap64_in (q : Int) (by omega), IntWalk.wrap64_in ((q : Int) - least) (by omega)]
  have m0 : 0 ≤ ((q : Int) - least) % ((2 ^ wid : Nat) : Int) := Int.emod_nonneg _ (by have := Nat.two_pow_pos wid; omega)
  have m1 : ((q : Int) - least) % ((2 ^ wid : Nat) : Int) < ((2 ^ wid : Nat) : Int) := Int.emod_lt_of_pos _ (by have := Nat.two_pow_pos wid; omega)
  exact IntWalk.wrap64_in _ (by omega)
set_option maxHeartbeats 400000 in
theorem take (f : Fld) (n : Nat) (hn : n < 65536) (h : f.wid ≤ 11) (hlw : f.low ≤ 15) (hl0 : -1024 ≤ f.least) (hl1 : f.least ≤ 1) (w : World) : Calls Tryd.prog 49 #[fagg f, .int .u16 n] w fun e w' => e = .returned (.int .i64 (takeN f n)) ∧ Below w.heap.size w w' := by
  obtain ⟨of, low, wid, least, most⟩ := f
  have hm := fun n => and_mask n wid h
  have hmk := mask ⟨of, low, wid, least, most⟩ h
  have HM := Lib.hid hm; have HMK := Lib.hid hmk
  clear hm hmk
  have h' : wid ≤ 11 := h
  have hlw' : low ≤ 15 := hlw
  have hl0' : -1024 ≤ least := hl0
  have hl1' : least ≤ 1 := hl1
  clear h hlw hl0 hl1
  go_enter Tryd.func49, Tryd.ntmps49
  go_wp2
  have hcc : ∀ j, (w.alloc (.cells #[.int .i64 of, .int .u64 low, .int .u64 wid, .int .i64 least, .int .i64 most] 97)).cell? ⟨w.heap.size, j, none⟩ = _ := fun j => World.cell?_alloc_at _ _ _ _ rfl
  have r0 := fun d os => cell_regrown (hcc 0) d os
  have r1 := fun d os => cell_regrown (hcc 1) d os
  have r2 := fun d os => cell_regrown (hcc 2) d os
  have r3 := fun d os => cell_regrown (hcc 3) d os
  have r4 := fun d os => cell_regrown (hcc 4) d os
  clear hcc
  refine wp_region_quiet_below (by kernel_rfl) (by kernel_rfl) ?_
  repeat (go_big_quiet_step ((go_at_call 59; exact Calls.regrown_of (HMK.out _))))
  refine wpQuiet_nil ?_
  intro _ hw'
  obtain ⟨⟨dq, osq⟩, hw''⟩ := hw'
  subst hw''
  go_wp2_with fail
  go_ret
  refine ⟨?_, ((Below.refl _ _).alloc (Nat.le_refl _) _).trans ((below_regrown _ dq osq).mono (by simp))⟩
  show Ending.returned (.int .i64 (wrap64 (least + bits BinOp.and IntKind.i64 (wrap64 (wrap64 ((n : Int) / 2 ^ low) - least)) ((2 ^ wid - 1 : Nat) : Int)))) = _
  rw [HM.out, take_wrap n wid low least hn h' hlw' hl0' hl1']
  rfl
end Go.Proofs.YtkipfeljpngkeaaDoor.Tp
