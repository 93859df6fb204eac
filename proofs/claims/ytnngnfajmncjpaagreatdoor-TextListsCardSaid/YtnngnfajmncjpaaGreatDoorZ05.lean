/- DERIVED. TpTab, TpFld in one text. By an AI agent. -/
import Derived.Test.YtnngnfajmncjpaaGreatDoorRows
import Derived.Test.YtnngnfajmncjpaaGreatDoorZ03
import Derived.ProofKit
import Derived.Below
import Derived.Test.YtnngnfajmncjpaaGreatDoorZ04
import Derived.Lib.QuietBelow
import Derived.Deep.RegionHeld3
import Derived.Laws.Bits64b
/- DERIVED. What the program's two tables hold, cell by cell. By an AI agent. -/
namespace Go.Proofs.YtnngnfajmncjpaaGreatDoor.Tp
open Go Go.ChangeShapes Go.WideShapes Go.ChangeAt Go.RowKit Tabs
set_option linter.unusedVariables false
structure Fld where
  of : Nat
  low : Nat
  wid : Nat
  least : Int
  most : Int
def flds : List Fld := [⟨0, 0, 3, 0, 7⟩, ⟨0, 8, 3, 0, 7⟩, ⟨0, 8, 4, 0, 13⟩, ⟨1, 3, 3, 0, 7⟩, ⟨2, 3, 3, 0, 7⟩, ⟨2, 6, 3, 0, 7⟩, ⟨3, 0, 8, 0, 255⟩, ⟨3, 6, 5, 0, 31⟩, ⟨3, 6, 5, 1, 32⟩, ⟨3, 6, 3, 0, 7⟩, ⟨3, 6, 4, 0, 15⟩, ⟨3, 0, 11, -1024, 1023⟩, ⟨3, 0, 8, -128, 127⟩]
structure Shp where
  head : Nat
  low : Nat
  has : List Nat
def shps : List Shp := [⟨4, 11, [1, 6]⟩, ⟨5, 11, [1, 6]⟩, ⟨6, 11, [1, 6]⟩, ⟨7, 11, [1, 6]⟩, ⟨0, 11, [7, 4, 0]⟩, ⟨1, 11, [8, 4, 0]⟩, ⟨2, 11, [8, 4, 0]⟩, ⟨12, 9, [5, 3, 0]⟩, ⟨13, 9, [5, 3, 0]⟩, ⟨14, 9, [9, 3, 0]⟩, ⟨15, 9, [9, 3, 0]⟩, ⟨16, 10, [10, 4, 0]⟩, ⟨13, 11, [7, 3, 0]⟩, ⟨12, 11, [7, 3, 0]⟩, ⟨44, 9, [5, 3, 0]⟩, ⟨40, 9, [5, 3, 0]⟩, ⟨9, 11, [1, 6]⟩, ⟨28, 11, [11]⟩, ⟨13, 12, [2, 12]⟩, ⟨48896, 0, []⟩, ⟨190, 8, [6]⟩]
def fldN (k : Nat) : Fld := flds[k]?.getD ⟨0, 0, 0, 0, 0⟩
def shpN (k : Nat) : Shp := shps[k]?.getD ⟨0, 0, []⟩
def fcells (k : Nat) : List Cl := [.v (.int .i64 (fldN k).of), .v (.int .u64 (fldN k).low), .v (.int .u64 (fldN k).wid), .v (.int .i64 (fldN k).least), .v (.int .i64 (fldN k).most)]
def scells (k : Nat) : List Cl := [.v (.int .u16 (shpN k).head), .v (.int .u64 (shpN k).low), .row ((shpN k).has.map fun x : Nat => .int .i64 (x : Int))]
theorem flat_get {α : Type} (f : Nat → List α) (c : Nat) (hf : ∀ i, (f i).length = c) : ∀ (n i j : Nat), i < n → j < c → ((List.range n).flatMap f)[c * i + j]? = (f i)[j]?
  | 0, i, j, h, _ => by omega
  | n + 1, i, j, h, hj => by
    have hl : ∀ m, ((List.range m).flatMap f).length = c * m := fun m => by
      induction m with
      | zero => simp
      | succ m ih => rw [List.range_succ, List.flatMap_append, List.length_append, ih]; simp [hf, Nat.mul_succ]
    rw [List.range_succ, List.flatMap_append]
    by_cases hi : i < n
    · have : c * i + j < c * n := Nat.lt_of_lt_of_le (by rw [Nat.mul_succ]; omega : c * i + j < c * (i + 1)) (Nat.mul_le_mul_left c hi)
      rw [List.getElem?_append_left (by rw [hl]; exact this)]
      exact flat_get f c hf n i j hi hj
    · have : i = n := by omega
      subst this
      rw [List.getElem?_append_right (by rw [hl]; omega), hl]
      simp
theorem lay_f : lay Tryz.prog 6 78 Rows.laid_bauta_thumb_fields = some ((List.range 13).flatMap fcells) := by kernel_rfl
theorem lay_s : lay Tryz.prog 6 75 Rows.laid_bauta_thumb_shapes = some ((List.range 21).flatMap scells) := by kernel_rfl
theorem gf : Tryz.prog.globalNamed "bauta/thumb.fields" = some 1 := by kernel_rfl
theorem gs : Tryz.prog.globalNamed "bauta/thumb.shapes" = some 0 := by kernel_rfl
theorem tf : (Tryz.prog.globals[1]?).map (fun x => x.type) = some 78 := by kernel_rfl
theorem ts : (Tryz.prog.globals[0]?).map (fun x => x.type) = some 75 := by kernel_rfl
/-- The tables lie in the world as the program's text has them. -/
structure Tb (w : World) : Prop where
  f : ∀ k j c, k < 13 → (fcells k)[j]? = some c → ∃ x, w.cell? ⟨1, 5 * k + j, none⟩ = some x ∧ c.fits w x
  s : ∀ k j c, k < 21 → (scells k)[j]? = some c → ∃ x, w.cell? ⟨0, 3 * k + j, none⟩ = some x ∧ c.fits w x
theorem fits_below {w w' : World} (hb : Below w.heap.size w w') {c : Cl} {x : Value} (h : c.fits w x) : c.fits w' x := by
  cases c with
  | v y => exact h
  | row xs =>
    obtain ⟨a, cap, h1, h2, h3⟩ := h
    exact ⟨a, cap, h1, h2, fun j y hj => by rw [hb.cell (World.block_lt_of_cell? w _ (h3 j y hj))]; exact h3 j y hj⟩
theorem Tb.below {w w' : World} (h : Tb w) (hb : Below w.heap.size w w') : Tb w' := by
  refine ⟨fun k j c hk hc => ?_, fun k j c hk hc => ?_⟩
  · obtain ⟨x, hx, hf⟩ := h.f k j c hk hc
    exact ⟨x, by rw [hb.cell (World.block_lt_of_cell? w _ hx)]; exact hx, fits_below hb hf⟩
  · obtain ⟨x, hx, hf⟩ := h.s k j c hk hc
    exact ⟨x, by rw [hb.cell (World.block_lt_of_cell? w _ hx)]; exact hx, fits_below hb hf⟩
theorem Tb.f0 {w : World} (h : Tb w) (k : Nat) (hk : k < 13) : w.cell? ⟨1, k * 5, none⟩ = some (.int .i64 (fldN k).of) := by obtain ⟨x, hx, hf⟩ := h.f k 0 _ hk rfl; rw [Nat.mul_comm k]; exact hx.trans (congrArg some hf)
theorem Tb.f1 {w : World} (h : Tb w) (k : Nat) (hk : k < 13) : w.cell? ⟨1, k * 5 + 1, none⟩ = some (.int .u64 (fldN k).low) := by obtain ⟨x, hx, hf⟩ := h.f k 1 _ hk rfl; rw [Nat.mul_comm k]; exact hx.trans (congrArg some hf)
theorem Tb.f2 {w : World} (h : Tb w) (k : Nat) (hk : k < 13) : w.cell? ⟨1, k * 5 + 2, none⟩ = some (.int .u64 (fldN k).wid) := by obtain ⟨x, hx, hf⟩ := h.f k 2 _ hk rfl; rw [Nat.mul_comm k]; exact hx.trans (congrArg some hf)
theorem Tb.f3 {w : World} (h : Tb w) (k : Nat) (hk : k < 13) : w.cell? ⟨1, k * 5 + 3, none⟩ = some (.int .i64 (fldN k).least) := by obtain ⟨x, hx, hf⟩ := h.f k 3 _ hk rfl; rw [Nat.mul_comm k]; exact hx.trans (congrArg some hf)
theorem Tb.f4 {w : World} (h : Tb w) (k : Nat) (hk : k < 13) : w.cell? ⟨1, k * 5 + 4, none⟩ = some (.int .i64 (fldN k).most) := by obtain ⟨x, hx, hf⟩ := h.f k 4 _ hk rfl; rw [Nat.mul_comm k]; exact hx.trans (congrArg some hf)
theorem Tb.s0 {w : World} (h : Tb w) (k : Nat) (hk : k < 21) : w.cell? ⟨0, k * 3, none⟩ = some (.int .u16 (shpN k).head) := by obtain ⟨x, hx, hf⟩ := h.s k 0 _ hk rfl; rw [Nat.mul_comm k]; exact hx.trans (congrArg some hf)
theorem Tb.s1 {w : World} (h : Tb w) (k : Nat) (hk : k < 21) : w.cell? ⟨0, k * 3 + 1, none⟩ = some (.int .u64 (shpN k).low) := by obtain ⟨x, hx, hf⟩ := h.s k 1 _ hk rfl; rw [Nat.mul_comm k]; exact hx.trans (congrArg some hf)
theorem Tb.s2 {w : World} (h : Tb w) (k : Nat) (hk : k < 21) : ∃ a cap, w.cell? ⟨0, k * 3 + 2, none⟩ = some (.slice (some a) (shpN k).has.length cap) ∧ ∀ j x : Nat, (shpN k).has[j]? = some x → w.cell? (a.add j) = some (.int .i64 (x : Int)) := by
  obtain ⟨x, hx, a, cap, h1, h2, h3⟩ := h.s k 2 _ hk rfl
  refine ⟨a, cap, by rw [Nat.mul_comm k, hx, h1]; simp, fun j x hj => h3 j _ (by rw [List.getElem?_map, hj]; rfl)⟩
theorem Tb.gs {w : World} (h : Tb w) : 0 < w.heap.size := World.block_lt_of_cell? w _ (h.s0 0 (by decide))
theorem Tb.gf {w : World} (h : Tb w) : 1 < w.heap.size := World.block_lt_of_cell? w _ (h.f0 0 (by decide))
end Go.Proofs.YtnngnfajmncjpaaGreatDoor.Tp
/- DERIVED. Contracts of the program's fields: where the number is, the mask, what is put and what is taken. By an AI agent. -/
namespace Go.Proofs.YtnngnfajmncjpaaGreatDoor.Tp
open Go.ChangeShapes Go.WideShapes Go.ChangeAt Go.RowKit Go.Sort
set_option linter.unusedVariables false
abbrev fagg (f : Fld) : Value := .agg #[.int .i64 f.of, .int .u64 f.low, .int .u64 f.wid, .int .i64 f.least, .int .i64 f.most]
theorem number (f : Fld) (b : Nat) (w : World) : Calls Tryz.prog 33 #[fagg f, .pointer (some ⟨b, 0, none⟩)] w fun e w' => e = .returned (.pointer (some ⟨b, 1 + min f.of 3, none⟩)) ∧ Below w.heap.size w w' := by
  obtain ⟨of, low, wid, least, most⟩ := f
  by_cases h0 : of = 0
  · subst h0
    go_enter Tryz.func33, Tryz.ntmps33
    go_wp2
    go_ret
    exact ⟨rfl, (Below.refl _ _).alloc (Nat.le_refl _) _⟩
  by_cases h1 : of = 1
  · subst h1
    go_enter Tryz.func33, Tryz.ntmps33
    go_wp2
    go_ret
    exact ⟨rfl, (Below.refl _ _).alloc (Nat.le_refl _) _⟩
  by_cases h2 : of = 2
  · subst h2
    go_enter Tryz.func33, Tryz.ntmps33
    go_wp2
    go_ret
    exact ⟨rfl, (Below.refl _ _).alloc (Nat.le_refl _) _⟩
  have e : 1 + min of 3 = 4 := by omega
  have e0 : ((of : Int) == 0) = false := by simp; omega
  have e1 : ((of : Int) == 1) = false := by simp; omega
  have e2 : ((of : Int) == 2) = false := by simp; omega
  have E := Lib.hid e
  clear h0 h1 h2 e
  go_enter Tryz.func33, Tryz.ntmps33
  go_wp2
  go_ret
  exact ⟨by show _ = Ending.returned (.pointer (some ⟨b, 1 + min of 3, none⟩)); rw [E.out]; rfl, (Below.refl _ _).alloc (Nat.le_refl _) _⟩
theorem pow_wrap (wid : Nat) (h : wid ≤ 11) : wrap64 (wrap64 (2 ^ wid) - 1) = ((2 ^ wid - 1 : Nat) : Int) := by
  have : ∀ i : Fin 12, wrap64 (wrap64 (2 ^ i.val) - 1) = ((2 ^ i.val - 1 : Nat) : Int) := by decide +kernel
  exact this ⟨wid, by omega⟩
theorem mask (f : Fld) (h : f.wid ≤ 11) (w : World) : Calls Tryz.prog 54 #[fagg f] w fun e w' => e = .returned (.int .i64 ((2 ^ f.wid - 1 : Nat) : Int)) ∧ Below w.heap.size w w' := by
  obtain ⟨of, low, wid, least, most⟩ := f
  have hp := pow_wrap wid h
  have HP := Lib.hid hp
  clear hp
  have h' : wid ≤ 11 := h
  go_enter Tryz.func54, Tryz.ntmps54
  go_wp2
  go_ret
  refine ⟨?_, (Below.refl _ _).alloc (Nat.le_refl _) _⟩
  rw [← HP.out]; rfl
theorem pow_le (w : Nat) (hw : w ≤ 11) : 2 ^ w ≤ 2048 := Nat.le_trans (Nat.pow_le_pow_right (by decide) hw) (by decide)
theorem and_mask (n : Int) (w : Nat) (hw : w ≤ 11) : bits .and .i64 n ((2 ^ w - 1 : Nat) : Int) = n % ((2 ^ w : Nat) : Int) := by
  have hp := pow_le w hw
  have hp0 : 0 < 2 ^ w := Nat.two_pow_pos w
  have e : (BitVec.ofInt 64 n &&& BitVec.ofInt 64 ((2 ^ w - 1 : Nat) : Int)).toNat = (n % ((2 ^ w : Nat) : Int)).toNat := by
    rw [BitVec.toNat_and, BitVec.toNat_ofInt, BitVec.toNat_ofInt]
    have h2 : (((2 ^ w - 1 : Nat) : Int) % ((2 ^ 64 : Nat) : Int)).toNat = 2 ^ w - 1 := by
      rw [Int.emod_eq_of_lt (by omega) (by omega)]; omega
    rw [h2, Nat.and_two_pow_sub_one_eq_mod]
    have hd : ((2 ^ w : Nat) : Int) ∣ ((2 ^ 64 : Nat) : Int) := Int.natCast_dvd_natCast.2 (Nat.pow_dvd_pow 2 (by omega))
    have h3 : (n % ((2 ^ 64 : Nat) : Int)) % ((2 ^ w : Nat) : Int) = n % ((2 ^ w : Nat) : Int) := Int.emod_emod_of_dvd n hd
    rw [← h3]
    have h0 : 0 ≤ n % ((2 ^ 64 : Nat) : Int) := Int.emod_nonneg _ (by decide)
    generalize n % ((2 ^ 64 : Nat) : Int) = m at h0
    obtain ⟨k, rfl⟩ := Int.eq_ofNat_of_zero_le h0
    rw [← Int.natCast_emod, Int.toNat_natCast, Int.toNat_natCast]
  show IntKind.i64.wrap ((BitVec.ofInt 64 n &&& BitVec.ofInt 64 ((2 ^ w - 1 : Nat) : Int)).toNat : Int) = _
  rw [e]
  have h0 : 0 ≤ n % ((2 ^ w : Nat) : Int) := Int.emod_nonneg _ (by omega)
  have h1 : n % ((2 ^ w : Nat) : Int) < ((2 ^ w : Nat) : Int) := Int.emod_lt_of_pos _ (by omega)
  rw [Int.toNat_of_nonneg h0]
  exact IntWalk.i64_in _ (by omega)
/-- What a field puts, and takes. -/
def putN (f : Fld) (n : Int) : Nat := (n % ((2 ^ f.wid : Nat) : Int)).toNat * 2 ^ f.low
def takeN (f : Fld) (h : Nat) : Int := f.least + (((h / 2 ^ f.low : Nat) : Int) - f.least) % ((2 ^ f.wid : Nat) : Int)
theorem put_wrap (n : Int) (wid low : Nat) (h : wid ≤ 11) (hl : wid + low ≤ 16) :
    IntKind.u16.wrap (IntKind.u16.wrap (n % ((2 ^ wid : Nat) : Int)) * 2 ^ low) = (((n % ((2 ^ wid : Nat) : Int)).toNat * 2 ^ low : Nat) : Int) := by
  have hp := pow_le wid h
  have h0 : 0 ≤ n % ((2 ^ wid : Nat) : Int) := Int.emod_nonneg _ (by have := Nat.two_pow_pos wid; omega)
  have h1 : n % ((2 ^ wid : Nat) : Int) < ((2 ^ wid : Nat) : Int) := Int.emod_lt_of_pos _ (by have := Nat.two_pow_pos wid; omega)
  generalize n % ((2 ^ wid : Nat) : Int) = m at h0 h1
  obtain ⟨k, rfl⟩ := Int.eq_ofNat_of_zero_le h0
  have hk : k < 2 ^ wid := by omega
  have hlt : k * 2 ^ low < 65536 := by
    have e : 2 ^ wid * 2 ^ low ≤ 2 ^ 16 := by rw [← Nat.pow_add]; exact Nat.pow_le_pow_right (by decide) hl
    exact Nat.lt_of_lt_of_le (Nat.mul_lt_mul_of_pos_right hk (Nat.two_pow_pos low)) e
  have e1 : ((k : Int) * 2 ^ low) = ((k * 2 ^ low : Nat) : Int) := by rw [Int.natCast_mul, Int.natCast_pow]; rfl
  rw [IntKind.wrap_u16, IntKind.wrap_u16, show (k : Int) % 65536 = k by omega, e1, Int.toNat_natCast]
  omega
set_option maxHeartbeats 400000 in
theorem put (f : Fld) (n : Int) (h : f.wid ≤ 11) (hl : f.wid + f.low ≤ 16) (w : World) : Calls Tryz.prog 40 #[fagg f, .int .i64 n] w fun e w' => e = .returned (.int .u16 (putN f n : Nat)) ∧ Below w.heap.size w w' := by
  obtain ⟨of, low, wid, least, most⟩ := f
  have hm := and_mask n wid h
  have hmk := mask ⟨of, low, wid, least, most⟩ h
  have HM := Lib.hid hm; have HMK := Lib.hid hmk
  clear hm hmk
  have h' : wid ≤ 11 := h
  have hl' : wid + low ≤ 16 := hl
  clear h hl
  go_enter Tryz.func40, Tryz.ntmps40
  go_wp2
  have hcc : ∀ j, (w.alloc (.cells #[.int .i64 of, .int .u64 low, .int .u64 wid, .int .i64 least, .int .i64 most] 77)).cell? ⟨w.heap.size, j, none⟩ = _ := fun j => World.cell?_alloc_at _ _ _ _ rfl
  have r0 := fun d os => cell_regrown (hcc 0) d os
  have r1 := fun d os => cell_regrown (hcc 1) d os
  have r2 := fun d os => cell_regrown (hcc 2) d os
  have r3 := fun d os => cell_regrown (hcc 3) d os
  have r4 := fun d os => cell_regrown (hcc 4) d os
  clear hcc
  refine wp_region_quiet_below (by kernel_rfl) (by kernel_rfl) ?_
  repeat (go_big_quiet_step ((go_at_call 54; exact Calls.regrown_of (HMK.out _))))
  refine wpQuiet_nil ?_
  intro _ hw'
  obtain ⟨⟨dq, osq⟩, hw''⟩ := hw'
  subst hw''
  go_wp2_with fail
  go_ret
  refine ⟨?_, ((Below.refl _ _).alloc (Nat.le_refl _) _).trans ((below_regrown _ dq osq).mono (by simp))⟩
  show Ending.returned (.int .u16 (IntKind.u16.wrap (IntKind.u16.wrap (bits BinOp.and IntKind.i64 n ((2 ^ wid - 1 : Nat) : Int)) * 2 ^ low))) = _
  rw [HM.out, put_wrap n wid low h' hl']
  rfl
theorem take_wrap (n wid low : Nat) (least : Int) (hn : n < 65536) (h : wid ≤ 11) (hl : low ≤ 15) (h0 : -1024 ≤ least) (h1 : least ≤ 1) :
    wrap64 (least + wrap64 (wrap64 ((n : Int) / 2 ^ low) - least) % ((2 ^ wid : Nat) : Int)) = least + (((n / 2 ^ low : Nat) : Int) - least) % ((2 ^ wid : Nat) : Int) := by
  have hp := pow_le wid h
  have e : ((n : Int) / 2 ^ low) = ((n / 2 ^ low : Nat) : Int) := by rw [Int.natCast_ediv, Int.natCast_pow]; rfl
  rw [e]
  have hq : n / 2 ^ low ≤ n := Nat.div_le_self _ _
  generalize n / 2 ^ low = q at hq
  rw [IntWalk.wrap64_in (q : Int) (by omega), IntWalk.wrap64_in ((q : Int) - least) (by omega)]
  have m0 : 0 ≤ ((q : Int) - least) % ((2 ^ wid : Nat) : Int) := Int.emod_nonneg _ (by have := Nat.two_pow_pos wid; omega)
  have m1 : ((q : Int) - least) % ((2 ^ wid : Nat) : Int) < ((2 ^ wid : Nat) : Int) := Int.emod_lt_of_pos _ (by have := Nat.two_pow_pos wid; omega)
  exact IntWalk.wrap64_in _ (by omega)
set_option maxHeartbeats 400000 in
theorem take (f : Fld) (n : Nat) (hn : n < 65536) (h : f.wid ≤ 11) (hlw : f.low ≤ 15) (hl0 : -1024 ≤ f.least) (hl1 : f.least ≤ 1) (w : World) : Calls Tryz.prog 32 #[fagg f, .int .u16 n] w fun e w' => e = .returned (.int .i64 (takeN f n)) ∧ Below w.heap.size w w' := by
  obtain ⟨of, low, wid, least, most⟩ := f
  have hm := fun n => and_mask n wid h
  have hmk := mask ⟨of, low, wid, least, most⟩ h
  have HM := Lib.hid hm; have HMK := Lib.hid hmk
  clear hm hmk
  have h' : wid ≤ 11 := h
  have hlw' : low ≤ 15 := hlw
  have hl0' : -1024 ≤ least := hl0
  have hl1' : least ≤ 1 := hl1
  clear h hlw hl0 hl1
  go_enter Tryz.func32, Tryz.ntmps32
  go_wp2
  have hcc : ∀ j, (w.alloc (.cells #[.int .i64 of, .int .u64 low, .int .u64 wid, .int .i64 least, .int .i64 most] 77)).cell? ⟨w.heap.size, j, none⟩ = _ := fun j => World.cell?_alloc_at _ _ _ _ rfl
  have r0 := fun d os => cell_regrown (hcc 0) d os
  have r1 := fun d os => cell_regrown (hcc 1) d os
  have r2 := fun d os => cell_regrown (hcc 2) d os
  have r3 := fun d os => cell_regrown (hcc 3) d os
  have r4 := fun d os => cell_regrown (hcc 4) d os
  clear hcc
  refine wp_region_quiet_below (by kernel_rfl) (by kernel_rfl) ?_
  repeat (go_big_quiet_step ((go_at_call 54; exact Calls.regrown_of (HMK.out _))))
  refine wpQuiet_nil ?_
  intro _ hw'
  obtain ⟨⟨dq, osq⟩, hw''⟩ := hw'
  subst hw''
  go_wp2_with fail
  go_ret
  refine ⟨?_, ((Below.refl _ _).alloc (Nat.le_refl _) _).trans ((below_regrown _ dq osq).mono (by simp))⟩
  show Ending.returned (.int .i64 (wrap64 (least + bits BinOp.and IntKind.i64 (wrap64 (wrap64 ((n : Int) / 2 ^ low) - least)) ((2 ^ wid - 1 : Nat) : Int)))) = _
  rw [HM.out, take_wrap n wid low least hn h' hlw' hl0' hl1']
  rfl
end Go.Proofs.YtnngnfajmncjpaaGreatDoor.Tp
