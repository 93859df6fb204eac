/- DERIVED. TxHf, TxHo, TxPg in one text. By an AI agent. -/
import Derived.Test.YtnngnfajmncjpaaGreatDoorZ27
import Derived.Test.YtnngnfajmncjpaaGreatDoorZ31
/- DERIVED. The halfword of an instruction's line. By an AI agent. -/
namespace Go.Proofs.YtnngnfajmncjpaaGreatDoor.Tx
open Go.ChangeShapes Go.WideShapes Go.ChangeAt Go.RowKit Go.Lib Go.Sort Args
set_option linter.unusedVariables false
theorem cutC (t : Txt) (W : World) : Calls Tryz.prog 22 #[.string ⟨t.toArray⟩, .string ⟨#[63]⟩] W fun e w' => e = .returned (.tuple #[.string ⟨(cutL t 63).toArray⟩, .bool (cutB t 63)]) ∧ W = w' := by
  obtain ⟨c1, c2⟩ := cut_eq t 63
  refine (Tryz.strings_CutPrefix ⟨t.toArray⟩ ⟨#[63]⟩ W).mono fun e w' ⟨h1, h2⟩ => ⟨?_, h2.symm⟩
  rw [h1]
  show Ending.returned (.tuple #[.string ⟨(trimPrefix t [63]).toArray⟩, .bool (hasPrefix t [63])]) = _
  rw [c1, c2]
theorem cut_no {t : Txt} (h : ∀ x ∈ t, x ≠ 63) : cutL t 63 = t ∧ cutB t 63 = false := by
  cases t with
  | nil => exact ⟨rfl, rfl⟩
  | cons x r =>
    have := h x (by simp)
    exact ⟨if_neg this, decide_eq_false this⟩
set_option maxHeartbeats 2000000 in
set_option maxRecDepth 100000 in
/-- The halfword of a line that is an instruction's. -/
theorem halfOk (h : Nat) (hh : h < 65536) (k : Nat) (s : Tp.Nums) (hok : Okk k (nm s)) (hp : Tp.putI k s.d s.n s.m s.i = h) (w : World) (hL : Lz w) :
    Calls Tryz.prog 14 #[.string ⟨(showL k (nm s)).toArray⟩] w fun e w' => e = .returned (.tuple #[.int .u16 (h : Int), .bool true]) ∧ Below w.heap.size w w' := by
  have hc : ThRef.canB k s.d s.n s.m s.i = true := (okk_of k hok.hk _ _ _ _).2 hok
  have hv : ThRef.putV k s.d s.n s.m s.i = .tuple #[.int .u16 h, .int .i64 0] := by
    rw [← hp]
    unfold ThRef.putV
    rw [hc]; rfl
  have hpt : ∀ W, Tp.Tb W → Calls Tryz.prog 23 #[.agg #[.int .i64 k, .int .i64 s.d, .int .i64 s.n, .int .i64 s.m, .int .i64 s.i]] W fun z w' => z = .returned (.tuple #[.int .u16 h, .int .i64 0]) ∧ Below W.heap.size W w' := fun W hW => by
    rw [← hv]
    exact Tp.putP k s.d s.n s.m s.i W hW
  have hps := fun W hW => parseShow hok W hW
  have hct := fun W => cutC (showL k (nm s)) W
  obtain ⟨c1, c2⟩ := cut_no (t := showL k (nm s)) (wr_no63 (nm s) (shpN k) (shp_no63 ⟨k, hok.hk⟩))
  rw [c1, c2] at hct
  simp only [nm] at hps hct ⊢
  have HPT := Lib.hid hpt; have HPS := Lib.hid hps; have HCT := Lib.hid hct; have HL := Lib.hid hL
  clear hc hv hpt hps hct c1 c2 hL hok hp
  generalize showL k ⟨s.d, s.n, s.m, s.i⟩ = OUT at *
  go_enter Tryz.func14, Tryz.ntmps14
  go_wp2_with fail
  refine (HCT.out _).mono ?_
  rintro e w1 ⟨rfl, rfl⟩
  go_wp2_with fail
  refine (HPS.out _ HL.out.lw).mono ?_
  rintro e w1 ⟨rfl, hb1⟩
  have HB := Lib.hid (hb1.alloc hb1.size (.cells #[.int .i64 k, .int .i64 s.d, .int .i64 s.n, .int .i64 s.m, .int .i64 s.i] 50))
  clear hb1
  go_wp2_with fail
  refine (HPT.out _ (HL.out.lw.below HB.out).tb).mono ?_
  rintro e w2 ⟨rfl, hb2⟩
  have HB2 := Lib.hid (HB.out.trans (hb2.mono HB.out.size))
  clear hb2
  go_wp2_with fail
  go_ret2
  exact ⟨rfl, HB2.out⟩
end Go.Proofs.YtnngnfajmncjpaaGreatDoor.Tx
/- DERIVED. The halfword of a line that is no instruction's. By an AI agent. -/
namespace Go.Proofs.YtnngnfajmncjpaaGreatDoor.Tx
open Go.ChangeShapes Go.WideShapes Go.ChangeAt Go.RowKit Go.Lib Go.Sort Args Lives Num
set_option linter.unusedVariables false
theorem dv_hexd (r : Nat) (hr : r < 16) : dvN (hexd r).toNat = r := by
  have : ∀ i : Fin 16, dvN (hexd i.val).toNat = i.val := by decide
  exact this ⟨r, hr⟩
theorem num4 (a : Nat) (ha : a < 65536) : numR 16 (fixD a 4) = (a, 0) := by
  have h : nrun 16 (fixD a 4) 0 = some a := by
    have d3 := dv_hexd (a / 16 ^ 3 % 16) (by omega); have d2 := dv_hexd (a / 16 ^ 2 % 16) (by omega); have d1 := dv_hexd (a / 16 ^ 1 % 16) (by omega); have d0 := dv_hexd (a / 16 ^ 0 % 16) (by omega)
    have l3 : a / 16 ^ 3 % 16 < 16 := by omega
    have l2 : a / 16 ^ 2 % 16 < 16 := by omega
    have l1 : a / 16 ^ 1 % 16 < 16 := by omega
    have l0 : a / 16 ^ 0 % 16 < 16 := by omega
    simp only [fixD, nrun, d3, d2, d1, d0, if_pos l3, if_pos l2, if_pos l1, if_pos l0]
    congr 1
    omega
  unfold numR
  rw [h]
  simp [fixD]
  try omega
theorem number4 (a : Nat) (ha : a < 65536) (W : World) : Calls Tryz.prog 24 #[.string (ByteArray.mk #[48, 120] ++ ByteArray.mk (fixD a 4).toArray)] W fun e w' => e = .returned (.tuple #[.int .u32 (a : Int), .int .i64 0]) ∧ W = w' := by
  have hs : ByteArray.mk #[48, 120] ++ ByteArray.mk (fixD a 4).toArray = ByteArray.mk (48 :: 120 :: fixD a 4).toArray := by
    apply ByteArray.ext
    simp
  rw [hs]
  refine (numC true ⟨(48 :: 120 :: fixD a 4).toArray⟩ ⟨(fixD a 4).toArray⟩ W ?_ ?_ ?_).mono fun e w' ⟨h1, h2⟩ => ⟨?_, h2⟩
  · simp [Lib.hasPrefix]
  · simp [Lib.trimPrefix, Lib.hasPrefix]
  · show (fixD a 4).toArray.size ≤ _
    simp [fixD_len, maxLen]
  · rw [h1]
    show Ending.returned (resN (numR 16 (fixD a 4))) = _
    rw [num4 a ha]
    rfl
set_option maxHeartbeats 2000000 in
set_option maxRecDepth 100000 in
theorem halfOdd (h : Nat) (hh : h < 65536) (hl : lineL h = 63 :: fixD h 4) (w : World) (hL : Lz w) :
    Calls Tryz.prog 14 #[.string ⟨(63 :: fixD h 4).toArray⟩] w fun e w' => e = .returned (.tuple #[.int .u16 (h : Int), .bool true]) ∧ Below w.heap.size w w' := by
  have hln := fun W hW => lineC h hh W hW
  have hct : ∀ W, Calls Tryz.prog 22 #[.string ⟨(63 :: fixD h 4).toArray⟩, .string ⟨#[63]⟩] W fun e w' => e = .returned (.tuple #[.string ⟨(fixD h 4).toArray⟩, .bool true]) ∧ W = w' := fun W => cutC (63 :: fixD h 4) W
  have hnm := fun W => number4 h hh W
  rw [hl] at hln
  have hd4 := fixD_len h 4
  have HLN := Lib.hid hln; have HNM := Lib.hid hnm; have HCT := Lib.hid hct; have HL := Lib.hid hL
  clear hln hnm hct hL hl
  generalize fixD h 4 = D4 at *
  go_enter Tryz.func14, Tryz.ntmps14
  go_wp2_with fail
  refine (HCT.out _).mono ?_
  rintro e w1 ⟨rfl, rfl⟩
  go_wp2_with fail
  refine (HNM.out _).mono ?_
  rintro e w1 ⟨rfl, rfl⟩
  go_wp2_with fail
  refine (HLN.out _ HL.out).mono ?_
  rintro e w2 ⟨rfl, hb2⟩
  have HB2 := Lib.hid hb2
  clear hb2
  go_wp2_with fail
  go_ret2
  exact ⟨rfl, HB2.out⟩
end Go.Proofs.YtnngnfajmncjpaaGreatDoor.Tx
/- DERIVED. The code of a list of lines. By an AI agent. -/
namespace Go.Proofs.YtnngnfajmncjpaaGreatDoor.Tx
open Go.ChangeShapes Go.WideShapes Go.ChangeAt Go.RowKit Go.Lib Go.Sort Args
set_option linter.unusedVariables false
/-- The halfword of any halfword's line. -/
theorem halfC (h : Nat) (hh : h < 65536) (w : World) (hL : Lz w) :
    Calls Tryz.prog 14 #[.string ⟨(lineL h).toArray⟩] w fun e w' => e = .returned (.tuple #[.int .u16 (h : Int), .bool true]) ∧ Below w.heap.size w w' := by
  rcases take_cases h hh with ⟨k, s, hok, ht, hp, hl⟩ | ⟨k, e, s, ht, he, hl⟩
  · rw [hl]; exact halfOk h hh k s hok hp w hL
  · have := halfOdd h hh hl w hL
    rw [← hl] at this
    exact this
end Go.Proofs.YtnngnfajmncjpaaGreatDoor.Tx
