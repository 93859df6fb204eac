/- DERIVED. Math, TxHex in one text. By an AI agent. -/
import Derived.Laws.BitsLemmas
import Derived.Laws.Bits64b
import Derived.Test.YtnngnfajmncjpaaGreatDoorRows
import Derived.WalkKit
import Derived.RegionTactic
import Derived.ProofKit
import Derived.Deep.QuietTactic
import Derived.BigQuiet
import Derived.Outline
import Derived.Lib.Hide
import Derived.Test.YtnngnfajmncjpaaGreatDoorZ06
import Derived.Lib.SlBytesRow
import Derived.Deep.LoopGhost
/- DERIVED. Plain facts on words of 32 bits (of no program): the model's bit operations at two words are those of 'BitVec 32'. By an AI agent. -/
namespace Go.Proofs.YtnngnfajmncjpaaGreatDoor.WMath
open Go

theorem ofInt_toNat (x : BitVec 32) : BitVec.ofInt 32 (x.toNat : Int) = x := by
  rw [BitVec.ofInt_natCast, BitVec.ofNat_toNat]; simp
theorem wrapU32 (x : BitVec 32) : IntKind.u32.wrap (x.toNat : Int) = (x.toNat : Int) := by
  rw [IntKind.wrap_u32]; have := x.isLt; omega
theorem b_and (x y : BitVec 32) : bits .and .u32 (x.toNat : Int) (y.toNat : Int) = ((x &&& y).toNat : Int) := by
  show IntKind.u32.wrap ((BitVec.ofInt 32 (x.toNat : Int) &&& BitVec.ofInt 32 (y.toNat : Int)).toNat : Int) = _
  rw [ofInt_toNat, ofInt_toNat, wrapU32]
theorem b_or (x y : BitVec 32) : bits .or .u32 (x.toNat : Int) (y.toNat : Int) = ((x ||| y).toNat : Int) := by
  show IntKind.u32.wrap ((BitVec.ofInt 32 (x.toNat : Int) ||| BitVec.ofInt 32 (y.toNat : Int)).toNat : Int) = _
  rw [ofInt_toNat, ofInt_toNat, wrapU32]
theorem b_xor (x y : BitVec 32) : bits .xor .u32 (x.toNat : Int) (y.toNat : Int) = ((x ^^^ y).toNat : Int) := by
  show IntKind.u32.wrap ((BitVec.ofInt 32 (x.toNat : Int) ^^^ BitVec.ofInt 32 (y.toNat : Int)).toNat : Int) = _
  rw [ofInt_toNat, ofInt_toNat, wrapU32]
theorem b_andNot (x y : BitVec 32) : bits .andNot .u32 (x.toNat : Int) (y.toNat : Int) = ((x &&& ~~~y).toNat : Int) := by
  show IntKind.u32.wrap ((BitVec.ofInt 32 (x.toNat : Int) &&& ~~~BitVec.ofInt 32 (y.toNat : Int)).toNat : Int) = _
  rw [ofInt_toNat, ofInt_toNat, wrapU32]

/-- A word out of an integer in its range. -/
theorem word_of (n : Int) (h0 : 0 ≤ n) (h1 : n ≤ 4294967295) : ∃ x : BitVec 32, n = (x.toNat : Int) :=
  ⟨BitVec.ofNat 32 n.toNat, by rw [BitVec.toNat_ofNat, Nat.mod_eq_of_lt (by omega)]; omega⟩
theorem eq_u (x y : BitVec 32) : (((x.toNat : Int)) == (y.toNat : Int)) = (x == y) := by
  rw [Bool.eq_iff_iff, beq_iff_eq, beq_iff_eq]; exact ⟨fun h => BitVec.eq_of_toNat_eq (by omega), fun h => by rw [h]⟩
theorem top (x : BitVec 32) : (((x.toNat : Int) / 2147483648) == 1) = x.msb := by
  rw [BitVec.msb_eq_decide, Bool.eq_iff_iff]; have := x.isLt; simp; omega
def cin (c : Bool) : BitVec 32 := if c then 1 else 0
def sum (a b : BitVec 32) (c : Bool) : BitVec 32 := a + b + cin c
def carry (a b : BitVec 32) (c : Bool) : Bool := decide (4294967296 ≤ a.toNat + b.toNat + (cin c).toNat)
def over (a b : BitVec 32) (c : Bool) : Bool := (a.msb ^^ (sum a b c).msb) && (b.msb ^^ (sum a b c).msb)
theorem cin_le (c : Bool) : (cin c).toNat ≤ 1 := by cases c <;> decide
theorem sum_int (a b : BitVec 32) (c : Bool) : ((a.toNat : Int) + b.toNat + (cin c).toNat) % 4294967296 = ((sum a b c).toNat : Int) := by
  unfold sum; rw [BitVec.toNat_add, BitVec.toNat_add]; omega
theorem carry_int (a b : BitVec 32) (c : Bool) : ((((a.toNat : Int) + b.toNat + (cin c).toNat) / 4294967296) == 1) = carry a b c := by
  unfold carry; rw [Bool.eq_iff_iff, beq_iff_eq, decide_eq_true_iff]; have := a.isLt; have := b.isLt; have := cin_le c; omega
end Go.Proofs.YtnngnfajmncjpaaGreatDoor.WMath
/- DERIVED. The text of the word 1, and 'lives': words are added. By an AI agent. -/
namespace Go.Proofs.YtnngnfajmncjpaaGreatDoor.Lives
open Go.ChangeShapes Go.WideShapes Go.ChangeAt Go.RowKit WMath

set_option maxRecDepth 100000
abbrev At16 (w : World) : Prop := w.cell? ⟨11, 15, none⟩ = some (.int .u8 4)

theorem pow16 (w : World) : Calls Tryz.prog 100 #[.int .i64 16] w fun e w' => e = .returned (.bool true) ∧ w = w' := by
  have e1 : bits BinOp.and IntKind.i64 16 15 = 0 := by decide
  go_enter Tryz.func100, Tryz.ntmps100
  go_wp2
  go_ret
  exact ⟨rfl, rfl⟩
theorem tz16 (w : World) (hc : At16 w) : Calls Tryz.prog 113 #[.int .u64 16] w fun e w' => e = .returned (.int .i64 4) ∧ w = w' := by
  unfold At16 at hc
  have e1 : (IntKind.u64.wrap (bits BinOp.and IntKind.u64 16 (IntKind.u64.wrap (-16)) * 285870213051353865) / 288230376151711744) = 15 := by decide
  go_enter Tryz.func113, Tryz.ntmps113
  go_wp2
  go_ret
  exact ⟨rfl, rfl⟩
theorem tzs16 (w : World) (hc : At16 w) : Calls Tryz.prog 101 #[.int .u64 16] w fun e w' => e = .returned (.int .i64 4) ∧ w = w' := by
  go_enter Tryz.func101, Tryz.ntmps101
  go_wp2_with (go_at_call 113; refine (tz16 _ hc).mono ?_; rintro e w' ⟨rfl, rfl⟩)
  go_ret
  exact ⟨rfl, rfl⟩
def hexd (n : Nat) : UInt8 := if n < 10 then UInt8.ofNat (48 + n) else UInt8.ofNat (87 + n)
def hexF : Nat → Nat → List UInt8 → List UInt8
  | 0, n, acc => hexd n :: acc
  | f + 1, n, acc => if n < 16 then hexd n :: acc else hexF f (n / 16) (hexd (n % 16) :: acc)
def bv (b : UInt8) : Value := .int .u8 (b.toNat : Int)
def Inv (a f n : Nat) (d : Array UInt8) : Prop := d.size = 65 ∧ f ≤ 7 ∧ n < 16 ^ (f + 1) ∧ hexF f n (d.toList.drop (58 + f)) = hexF 7 a []
def blk (w : World) (d : Array UInt8) : World := w.alloc (.cells (d.map bv) 138)
theorem zero_blk (w : World) : w.alloc (.cells Tryz.zeroCells138 138) = blk w (Array.replicate 65 0) := by
  unfold blk; congr 2; kernel_rfl
theorem blk_cell (w : World) (d : Array UInt8) (i : Nat) (hs : d.size = 65) (hi : i < 65) : ∃ b : UInt8, (blk w d).cell? ⟨w.heap.size, i, none⟩ = some (.int .u8 (b.toNat : Int)) := by
  unfold blk; rw [World.cell?_alloc_at _ _ _ _ rfl]
  exact ⟨d[i]'(by omega), by simp [bv, hs, hi]⟩
theorem blk_free (w : World) (d : Array UInt8) (i : Nat) : (blk w d).frozen? ⟨w.heap.size, i, none⟩ = false := by
  unfold blk; rw [World.frozen?_alloc_at _ _ _ _ rfl]
theorem blk_set (w : World) (d : Array UInt8) (i : Nat) (b : UInt8) : (blk w d).setCell ⟨w.heap.size, i, none⟩ (.int .u8 (b.toNat : Int)) = blk w (d.setIfInBounds i b) := by
  unfold blk; rw [World.setCell_alloc_at _ _ _ _ _ rfl]
  congr 2
  rw [Array.map_setIfInBounds]; rfl
theorem bits15 (n : Nat) (hn : n < 4294967296) : bits BinOp.and IntKind.u64 (n : Int) 15 = ((n % 16 : Nat) : Int) := by
  rw [show (15 : Int) = ((15 : Nat) : Int) from rfl, bits_and_u64_nat n 15 (by omega) (by omega)]
  congr 1
  exact Nat.and_two_pow_sub_one_eq_mod n 4
def DIG : ByteArray := ⟨#[48, 49, 50, 51, 52, 53, 54, 55, 56, 57, 97, 98, 99, 100, 101, 102, 103, 104, 105, 106, 107, 108, 109, 110, 111, 112, 113, 114, 115, 116, 117, 118, 119, 120, 121, 122]⟩
theorem dig_at (r : Nat) (hr : r < 16) (h : r < DIG.size) : DIG[r]'h = hexd r := by
  have : ∀ i : Fin 16, DIG[i.val]'(Nat.lt_of_lt_of_le i.isLt (by decide)) = hexd i.val := by decide
  exact this ⟨r, hr⟩
theorem inv_set (a f n : Nat) (d : Array UInt8) (x : UInt8) (hI : Inv a f n d) : (d.setIfInBounds (57 + f) x).toList.drop (57 + f) = x :: d.toList.drop (58 + f) := by
  obtain ⟨h1, h2, _, _⟩ := hI
  have hl : d.toList.length = 65 := by simpa using h1
  rw [Array.toList_setIfInBounds, List.drop_eq_getElem_cons (by simp; omega), List.drop_set_of_lt (by omega)]
  simp
  rw [show 57 + f + 1 = 58 + f by omega]
set_option maxHeartbeats 400000 in
theorem inv_step (a f n r : Nat) (d : Array UInt8) (x : UInt8) (hI : Inv a f n d) (h : 16 ≤ n) (hr : n % 16 = r) (hx : x = hexd r) :
    ∃ f', f = f' + 1 ∧ Inv a f' (n / 16) (d.setIfInBounds (57 + f) x) := by
  have hI' := hI
  obtain ⟨h1, h2, h3, h4⟩ := hI
  cases f with
  | zero => omega
  | succ f =>
    refine ⟨f, rfl, by simpa using h1, by omega, ?_, ?_⟩
    · rw [Nat.pow_succ 16 (f + 1)] at h3
      exact Nat.div_lt_of_lt_mul (by omega)
    · have e := inv_set a (f + 1) n d x hI'
      rw [show 57 + (f + 1) = 58 + f by omega] at e ⊢
      rw [e, ← h4, hexF, if_neg (by omega), hr, hx]
theorem inv_end (a f n : Nat) (d : Array UInt8) (x : UInt8) (hI : Inv a f n d) (h : n < 16) (hx : x = hexd n) : (d.setIfInBounds (57 + f) x).toList.drop (57 + f) = hexF 7 a [] := by
  rw [inv_set a f n d x hI, ← hI.2.2.2, hx]
  cases f with
  | zero => rfl
  | succ f => rw [hexF, if_pos h]
theorem slice57 (b f : Nat) (hf : f ≤ 7) (l : Int) (hl : l = ((57 + f : Nat) : Int)) (W : World) :
    (Instr.sliceAt 138 (.pointer (some ⟨b, 0, none⟩)) (some (.int .i64 l)) none none).run Tryz.prog W = .ok (.slice (some ⟨b, 57 + f, none⟩) (8 - f) (8 - f)) W := by
  have hL : Tryz.prog.arrayLen 138 = 65 := by kernel_rfl
  have ht : Tryz.prog.underlying 138 = some (.array (Tryz.prog.arrayLen 138) (Tryz.prog.elem 138)) := by kernel_rfl
  have hE : Tryz.prog.elem 138 = 5 := by kernel_rfl
  have hz : (sizeOf 5).run Tryz.prog W = .ok 1 W := by kernel_rfl
  subst hl
  rw [run_sliceAt_array_l W _ _ ht .i64 _ (by omega) (by rw [hL]; omega), hE, hz, hL]
  simp only [Result.andThen, slicedAt, Int.toNat_natCast]
  rw [if_neg (by omega)]
  simp [Addr.add]
  omega
theorem conv57 (w : World) (f : Nat) (hf : f ≤ 7) (d : Array UInt8) (hd : d.size = 65) :
    (Go.convert 31 9 (.slice (some ⟨w.heap.size, 57 + f, none⟩) (8 - f) (8 - f))).run Tryz.prog (blk w d) = .ok (.string ⟨(d.toList.drop (57 + f)).toArray⟩) (blk w d) := by
  have hB : Lib.Bytes (blk w d) w.heap.size 0 ⟨d⟩ := fun i hi => by
    unfold blk; rw [Nat.zero_add, World.cell?_alloc_at _ _ _ _ rfl]
    have : i < d.size := hi
    simp [bv, this]
    rfl
  have h := Lib.run_convert_window (P := Tryz.prog) (blk w d) 31 5 9 Tryz.underlying31 Tryz.underlying5 Tryz.underlying9 w.heap.size 0 ⟨d⟩ hB (57 + f) (8 - f) (8 - f) (by show _ ≤ d.size; omega)
  rw [Nat.zero_add] at h
  rw [h, show 57 + f + (8 - f) = d.size by omega]
  congr 2
  apply ByteArray.ext
  apply Array.toList_inj.1
  rw [Lib.extract_data]
  simp only [List.take_of_length_le (show (List.drop (57 + f) d.toList).length ≤ d.size - (57 + f) by simp)]
set_option maxHeartbeats 400000 in
theorem fmt_bits (a : Nat) (ha : a < 4294967296) (w : World) (hc : At16 w) (hg : 11 < w.heap.size) : Calls Tryz.prog 79 #[.slice none 0 0, .int .u64 a, .int .i64 16, .bool false, .bool false] w fun e w' => e = .returned (.tuple #[.slice none 0 0, .string ⟨(hexF 7 a []).toArray⟩]) ∧ Below w.heap.size w w' := by
  have hA : ∀ o, At16 (w.alloc o) := fun o => by unfold At16; rw [World.cell?_alloc_lt w o ⟨_, _, _⟩ hg]; exact hc
  clear hg
  unfold At16 at hc hA
  go_enter Tryz.func79, Tryz.ntmps79
  go_wp2_with (first | (go_at_call 100; refine (pow16 _).mono ?_; rintro e w' ⟨rfl, rfl⟩) | (go_at_call 101; refine (tzs16 _ (hA _)).mono ?_; rintro e w' ⟨rfl, rfl⟩))
  rw [zero_blk]
  go_loopw [1, 13] (fun vu vi wr => ∃ (f n : Nat) (d : Array UInt8), vu = .int .u64 n ∧ vi = .int .i64 ((58 + f : Nat) : Int) ∧ wr = blk w d ∧ Hid (Inv a f n d)) (fun vu _ _ => (intOf vu).toNat)
  case atStart => exact ⟨7, a, _, rfl, rfl, rfl, Lib.hid ⟨by simp, by omega, by omega, rfl⟩⟩
  case round =>
    obtain ⟨f, n, d, rfl, rfl, rfl, HI⟩ := hrel
    have hf : f ≤ 7 := HI.out.2.1
    have hn : n < 4294967296 := Nat.lt_of_lt_of_le HI.out.2.2.1 (Nat.le_trans (Nat.pow_le_pow_right (by omega) (by omega : f + 1 ≤ 8)) (by omega))
    obtain ⟨b0, hcell⟩ := blk_cell w d (57 + f) HI.out.1 (by omega)
    have hfree := blk_free w d (57 + f)
    have hset := blk_set w d (57 + f)
    by_cases h16 : 16 ≤ n
    · have hb := bits15 n hn
      have hr : n % 16 < 16 := by omega
      generalize hrr : n % 16 = r at hb hr
      have HR := Lib.hid hrr
      clear hrr
      go_wp2
      go_roundw
      case rel =>
        obtain ⟨f', hf', hI'⟩ := inv_step a f n r d _ HI.out h16 HR.out (dig_at r hr (Nat.lt_of_lt_of_le hr (by decide)))
        exact ⟨f', n / 16, _, rfl, by rw [hf']; go_num, rfl, Lib.hid hI'⟩
      case measure => simp [intOf]; omega
    · have hsl : ∀ W, (Instr.sliceAt 138 (.pointer (some ⟨w.heap.size, 0, none⟩)) (some (.int .i64 (58 + (f : Int) - 1))) none none).run Tryz.prog W = .ok (.slice (some ⟨w.heap.size, 57 + f, none⟩) (8 - f) (8 - f)) W := fun W => slice57 _ f hf _ (by omega) W
      have hconv : ∀ x, (Go.convert 31 9 (.slice (some ⟨w.heap.size, 57 + f, none⟩) (8 - f) (8 - f))).run Tryz.prog (blk w (d.setIfInBounds (57 + f) x)) = .ok (.string ⟨((d.setIfInBounds (57 + f) x).toList.drop (57 + f)).toArray⟩) (blk w (d.setIfInBounds (57 + f) x)) := fun x => conv57 w f hf _ (by simpa using HI.out.1)
      go_wp2
      go_ret2
      refine ⟨?_, (Below.refl _ _).alloc (Nat.le_refl _) _⟩
      have hd := dig_at n (by omega) (Nat.lt_of_lt_of_le (by omega : n < 16) (by decide))
      have e := inv_end a f n d _ HI.out (by omega) hd
      rw [Array.toList_setIfInBounds] at e
      rw [← e]
      rfl
set_option maxHeartbeats 400000 in
theorem fmt (a : Nat) (ha : a < 4294967296) (w : World) (hc : At16 w) (hg : 11 < w.heap.size) : Calls Tryz.prog 34 #[.int .u64 a, .int .i64 16] w fun e w' => e = .returned (.string ⟨(hexF 7 a []).toArray⟩) ∧ Below w.heap.size w w' := by
  go_enter Tryz.func34, Tryz.ntmps34
  go_wp2_with (first | (go_at_call 79; refine (fmt_bits a ha _ hc hg).mono ?_; rintro e w' ⟨rfl, hb⟩) | go_in)
  go_ret
  exact ⟨rfl, hb⟩
theorem hexF_len (f n : Nat) (acc : List UInt8) : (hexF f n acc).length ≤ f + 1 + acc.length := by
  induction f generalizing n acc with
  | zero => simp [hexF]; omega
  | succ f ih =>
    unfold hexF
    split
    · simp; omega
    · have := ih (n / 16) (hexd (n % 16) :: acc)
      simp at this; omega
theorem rep48 (n : Nat) : Lib.repeatL (ByteArray.mk #[48]).data.toList n = List.replicate n 48 := by
  induction n with
  | zero => rfl
  | succ n ih =>
    show [48] ++ Lib.repeatL [48] n = _
    rw [List.replicate_succ]
    exact congrArg (fun l => 48 :: l) ih
/-- The text of a word: 0x and eight digits. -/
def hex8 (a : Nat) : List UInt8 := [48, 120] ++ (List.replicate (8 - (hexF 7 a []).length) 48 ++ hexF 7 a [])
set_option maxHeartbeats 400000 in
theorem hex (a : Nat) (ha : a < 4294967296) (w : World) (hc : At16 w) (hg : 11 < w.heap.size) : Calls Tryz.prog 20 #[.int .u32 a] w fun e w' => e = .returned (.string ⟨(hex8 a).toArray⟩) ∧ Below w.heap.size w w' := by
  have hl : (hexF 7 a []).length ≤ 8 := by have := hexF_len 7 a []; simpa using this
  generalize hL : hexF 7 a [] = L at hl
  have HL := Lib.hid hL
  have hfmt : ∀ W, At16 W → 11 < W.heap.size → Calls Tryz.prog 34 #[.int .u64 a, .int .i64 16] W fun e w' => e = .returned (.string ⟨L.toArray⟩) ∧ Below W.heap.size W w' := fun W h1 h2 => by rw [← HL.out]; exact fmt a ha W h1 h2
  have HF := Lib.hid hfmt
  clear hL hfmt
  go_enter Tryz.func20, Tryz.ntmps20
  go_wp2_with fail
  refine (HF.out _ hc hg).mono ?_; rintro e w' ⟨rfl, hb⟩
  go_wp2_with fail
  rw [show (8 : Int) - (L.length : Int) = ((8 - L.length : Nat) : Int) by omega]
  refine (Tryz.strings_Repeat ⟨#[48]⟩ (8 - L.length) _ (by omega) (by show 1 * _ ≤ _; omega)).mono ?_; rintro e w2 ⟨rfl, hb2⟩
  rw [rep48]
  go_wp2
  go_ret
  refine ⟨?_, hb.trans (hb2.mono hb.size)⟩
  unfold hex8
  rw [HL.out]
  show Ending.returned (.string (ByteArray.mk #[48, 120] ++ ByteArray.mk (Array.replicate (8 - L.length) 48) ++ ByteArray.mk L.toArray)) = _
  congr 2
/-- The lowest k digits of a number in base 16. -/
def fixD (n : Nat) : Nat → List UInt8
  | 0 => []
  | k + 1 => hexd (n / 16 ^ k % 16) :: fixD n k
theorem fixD_len (n k : Nat) : (fixD n k).length = k := by
  induction k with
  | zero => rfl
  | succ k ih => simp [fixD, ih]
theorem fixD_last (n k : Nat) : fixD n (k + 1) = fixD (n / 16) k ++ [hexd (n % 16)] := by
  induction k with
  | zero => simp [fixD]
  | succ k ih =>
    rw [fixD, ih, fixD, Nat.div_div_eq_div_mul, Nat.pow_succ, Nat.mul_comm (16 ^ k) 16]
    rfl
theorem fixD_small (n k : Nat) (hn : n < 16) : fixD n (k + 1) = List.replicate k 48 ++ [hexd n] := by
  induction k with
  | zero => simp [fixD, Nat.mod_eq_of_lt hn]
  | succ k ih =>
    rw [fixD, ih, List.replicate_succ, Nat.div_eq_of_lt (Nat.lt_of_lt_of_le hn (Nat.pow_le_pow_right (n := 16) (by decide) (by omega : 1 ≤ k + 1)))]
    rfl
theorem hexF_fix (f n : Nat) (acc : List UInt8) (hn : n < 16 ^ (f + 1)) :
    List.replicate (f + 1 + acc.length - (hexF f n acc).length) 48 ++ hexF f n acc = fixD n (f + 1) ++ acc := by
  induction f generalizing n acc with
  | zero =>
    rw [fixD_small n 0 (by omega)]
    simp [hexF]
    omega
  | succ f ih =>
    unfold hexF
    split
    · rename_i h
      rw [fixD_small n (f + 1) h]
      simp
      omega
    · rename_i h
      have h2 := ih (n / 16) (hexd (n % 16) :: acc) (Nat.div_lt_of_lt_mul (by rw [Nat.pow_succ] at hn; omega))
      rw [fixD_last, List.append_assoc, List.singleton_append, ← h2]
      congr 2
      simp; omega
theorem hex8_fix (a : Nat) (ha : a < 4294967296) : hex8 a = [48, 120] ++ fixD a 8 := by
  unfold hex8
  have h := hexF_fix 7 a [] (by omega)
  rw [List.append_nil] at h
  rw [← h]
  rfl
theorem hexd_one : ∀ i j : Fin 16, hexd i.1 = hexd j.1 → i = j := by decide
theorem hexd_inj {i j : Nat} (hi : i < 16) (hj : j < 16) (h : hexd i = hexd j) : i = j := congrArg Fin.val (hexd_one ⟨i, hi⟩ ⟨j, hj⟩ h)
theorem fix4_inj {a b : Nat} (ha : a < 65536) (hb : b < 65536) (h : fixD a 4 = fixD b 4) : a = b := by
  simp only [fixD, List.cons.injEq, and_true] at h
  obtain ⟨h1, h2, h3, h4⟩ := h
  have e1 := hexd_inj (Nat.mod_lt _ (by decide)) (Nat.mod_lt _ (by decide)) h1
  have e2 := hexd_inj (Nat.mod_lt _ (by decide)) (Nat.mod_lt _ (by decide)) h2
  have e3 := hexd_inj (Nat.mod_lt _ (by decide)) (Nat.mod_lt _ (by decide)) h3
  have e4 := hexd_inj (Nat.mod_lt _ (by decide)) (Nat.mod_lt _ (by decide)) h4
  omega
end Go.Proofs.YtnngnfajmncjpaaGreatDoor.Lives
