/- DERIVED. ThRef, ThCan in one text. By an AI agent. -/
import Derived.Test.YtnngnfajmncjpaaGreatDoorRows
import Derived.WalkKit
import Derived.RegionTactic
import Derived.ProofKit
import Derived.Deep.QuietTactic
import Derived.BigQuiet
import Derived.Outline
import Derived.Lib.Hide
import Derived.OwnWalk
import Derived.WalkSmall
import Derived.Deep.DeepCutAuto
import Derived.StillTactics
import Derived.Deep.RegionHeld3
import Derived.WalkSpells
import Derived.Lib.QuietBelow
/- DERIVED. Contracts of the reference's shapes and bounds of instructions. By an AI agent. -/
namespace Go.Proofs.YtnngnfajmncjpaaGreatDoor.ThRef
open Go.ChangeShapes Go.WideShapes Go.ChangeAt Go.RowKit
set_option linter.unusedVariables false
def shapes : List ByteArray := [
  ⟨#[48, 48, 49, 48, 48, 100, 100, 100, 105, 105, 105, 105, 105, 105, 105, 105]⟩,
  ⟨#[48, 48, 49, 48, 49, 100, 100, 100, 105, 105, 105, 105, 105, 105, 105, 105]⟩,
  ⟨#[48, 48, 49, 49, 48, 100, 100, 100, 105, 105, 105, 105, 105, 105, 105, 105]⟩,
  ⟨#[48, 48, 49, 49, 49, 100, 100, 100, 105, 105, 105, 105, 105, 105, 105, 105]⟩,
  ⟨#[48, 48, 48, 48, 48, 105, 105, 105, 105, 105, 109, 109, 109, 100, 100, 100]⟩,
  ⟨#[48, 48, 48, 48, 49, 105, 105, 105, 105, 105, 109, 109, 109, 100, 100, 100]⟩,
  ⟨#[48, 48, 48, 49, 48, 105, 105, 105, 105, 105, 109, 109, 109, 100, 100, 100]⟩,
  ⟨#[48, 48, 48, 49, 49, 48, 48, 109, 109, 109, 110, 110, 110, 100, 100, 100]⟩,
  ⟨#[48, 48, 48, 49, 49, 48, 49, 109, 109, 109, 110, 110, 110, 100, 100, 100]⟩,
  ⟨#[48, 48, 48, 49, 49, 49, 48, 105, 105, 105, 110, 110, 110, 100, 100, 100]⟩,
  ⟨#[48, 48, 48, 49, 49, 49, 49, 105, 105, 105, 110, 110, 110, 100, 100, 100]⟩,
  ⟨#[48, 49, 48, 48, 48, 48, 105, 105, 105, 105, 109, 109, 109, 100, 100, 100]⟩,
  ⟨#[48, 49, 49, 48, 49, 105, 105, 105, 105, 105, 110, 110, 110, 100, 100, 100]⟩,
  ⟨#[48, 49, 49, 48, 48, 105, 105, 105, 105, 105, 110, 110, 110, 100, 100, 100]⟩,
  ⟨#[48, 49, 48, 49, 49, 48, 48, 109, 109, 109, 110, 110, 110, 100, 100, 100]⟩,
  ⟨#[48, 49, 48, 49, 48, 48, 48, 109, 109, 109, 110, 110, 110, 100, 100, 100]⟩,
  ⟨#[48, 49, 48, 48, 49, 100, 100, 100, 105, 105, 105, 105, 105, 105, 105, 105]⟩,
  ⟨#[49, 49, 49, 48, 48, 105, 105, 105, 105, 105, 105, 105, 105, 105, 105, 105]⟩,
  ⟨#[49, 49, 48, 49, 99, 99, 99, 99, 105, 105, 105, 105, 105, 105, 105, 105]⟩,
  ⟨#[49, 48, 49, 49, 49, 49, 49, 49, 48, 48, 48, 48, 48, 48, 48, 48]⟩,
  ⟨#[49, 48, 49, 49, 49, 49, 49, 48, 105, 105, 105, 105, 105, 105, 105, 105]⟩]
def lows : List Int := [0, 0, 0, 0, 0, 1, 1, 0, 0, 0, 0, 0, 0, 0, 0, 0, 0, -1024, -128, 0, 0]
def highs : List Int := [255, 255, 255, 255, 31, 32, 32, 0, 0, 7, 7, 15, 31, 31, 0, 0, 255, 1023, 127, 0, 255]
def lowN (op : Nat) : Int := lows[op]?.getD 0
def highN (op : Nat) : Int := highs[op]?.getD 0
def shapeN (op : Nat) : ByteArray := shapes[op]?.getD ⟨#[]⟩
theorem pick {α : Type} (l : List α) (f : α → Value) (i : Nat) (d : α) (h : i < (l.map f).length) : (l.map f)[i]'h = f (l[i]?.getD d) := by
  rw [List.getElem_map, List.getElem?_eq_getElem (by simpa using h)]; rfl
theorem low (op : Nat) (h : op < 21) (w : World) : Calls Tryz.prog 43 #[.int .i64 op] w fun e w' => e = .returned (.int .i64 (lowN op)) ∧ Below w.heap.size w w' := by
  go_enter Tryz.func43, Tryz.ntmps43
  go_wp2
  go_ret
  refine ⟨?_, (Below.refl _ _).alloc (Nat.le_refl _) _⟩
  exact congrArg Ending.returned (pick lows (Value.int .i64) op 0 h)
theorem high (op : Nat) (h : op < 21) (w : World) : Calls Tryz.prog 44 #[.int .i64 op] w fun e w' => e = .returned (.int .i64 (highN op)) ∧ Below w.heap.size w w' := by
  go_enter Tryz.func44, Tryz.ntmps44
  go_wp2
  go_ret
  refine ⟨?_, (Below.refl _ _).alloc (Nat.le_refl _) _⟩
  exact congrArg Ending.returned (pick highs (Value.int .i64) op 0 h)
theorem shape (op : Nat) (h : op < 21) (w : World) : Calls Tryz.prog 42 #[.int .i64 op] w fun e w' => e = .returned (.string (shapeN op)) ∧ Below w.heap.size w w' := by
  go_enter Tryz.func42, Tryz.ntmps42
  go_wp2
  go_ret
  refine ⟨?_, (Below.refl _ _).alloc (Nat.le_refl _) _⟩
  exact congrArg Ending.returned (pick shapes Value.string op ⟨#[]⟩ h)
theorem idx_s (s : ByteArray) (k : Nat) (hk : k < s.size) (w : World) : (Instr.index 9 (.string s) (.int .i64 (k : Int))).run Tryz.prog w = .ok (.int .u8 ((s[k].toNat : Nat) : Int)) w := by
  rw [run_index_string w 9 s .i64 k Tryz.underlying9, dif_pos ⟨by omega, by omega⟩]
  have e : ((k : Int)).toNat = k := by omega
  simp only [e]
/-- Whether a text has a letter. -/
def hasB (s : ByteArray) (c : Nat) : Bool := s.data.toList.any fun x => x.toNat == c
theorem any_take (s : ByteArray) (c k : Nat) (hk : k < s.size) : (s.data.toList.take (k + 1)).any (fun x => x.toNat == c) = ((s.data.toList.take k).any (fun x => x.toNat == c) || (s[k].toNat == c)) := by
  rw [List.take_succ_eq_append_getElem (by simpa using hk), List.any_append]
  simp
  rfl
set_option maxHeartbeats 400000 in
theorem has (s : ByteArray) (c : Nat) (hs : s.size ≤ 64) (hc : c < 256) (w : World) : Calls Tryz.prog 63 #[.string s, .int .u8 c] w fun e w' => e = .returned (.bool (hasB s c)) ∧ w = w' := by
  go_enter Tryz.func63, Tryz.ntmps63
  go_wp2
  go_loop [5] (fun vi => ∃ k : Nat, k ≤ s.size ∧ vi = .int .i64 k ∧ Hid ((s.data.toList.take k).any (fun x => x.toNat == c) = false)) (fun vi => s.size - (intOf vi).toNat)
  case atStart => exact ⟨0, by omega, rfl, Lib.hid rfl⟩
  case round =>
    obtain ⟨k, hk, rfl, HI⟩ := hrel
    by_cases hlt : k < s.size
    · have hx := idx_s s k hlt
      have hst := any_take s c k hlt
      rw [HI.out] at hst
      generalize s[k].toNat = x at hx hst
      by_cases hxc : x = c
      · have hfin : hasB s c = true := by
          unfold hasB
          rw [← List.take_append_drop (k + 1) s.data.toList, List.any_append, hst]
          simp [hxc]
        have e1 : ((x : Int) == (c : Int)) = true := by simp [hxc]
        have HF := Lib.hid hfin
        clear hfin hst hxc
        go_wp2
        go_ret
        exact ⟨by rw [HF.out]; rfl, rfl⟩
      · have e1 : ((x : Int) == (c : Int)) = false := by simp; omega
        have hst2 : (s.data.toList.take (k + 1)).any (fun x => x.toNat == c) = false := by rw [hst]; simp [hxc]
        have HS := Lib.hid hst2
        clear hst hst2 hxc
        go_wp2
        go_round
        case rel => exact ⟨k + 1, by omega, by go_num, HS⟩
        case measure => simp [intOf]; omega
    · have hfin : hasB s c = false := by
        have h := HI.out
        rw [List.take_of_length_le (by simp; omega)] at h
        exact h
      have HF := Lib.hid hfin
      clear hfin
      go_wp2
      go_ret
      exact ⟨by rw [HF.out]; rfl, rfl⟩
end Go.Proofs.YtnngnfajmncjpaaGreatDoor.ThRef
/- DERIVED. The contract of the reference's Can. By an AI agent. -/
namespace Go.Proofs.YtnngnfajmncjpaaGreatDoor.ThRef
open Go.ChangeShapes Go.WideShapes Go.ChangeAt Go.RowKit Go.Sort
set_option linter.unusedVariables false
abbrev ins (op d n m imm : Int) : Value := .agg #[.int .i64 op, .int .i64 d, .int .i64 n, .int .i64 m, .int .i64 imm]
theorem shape_size (k : Nat) (h : k < 21) : (shapeN k).size = 16 := by
  have : ∀ i : Fin 21, (shapeN i.val).size = 16 := by decide +kernel
  exact this ⟨k, h⟩
/-- What belongs to an instruction beside its Op and D. -/
def restB (k : Nat) (n m imm : Int) : Bool :=
  (decide (n = 0) || hasB (shapeN k) 110) && decide (0 ≤ n) && decide (n ≤ 7) && (decide (m = 0) || hasB (shapeN k) 109) && decide (0 ≤ m) && decide (m ≤ 7) && decide (lowN k ≤ imm) && decide (imm ≤ highN k)
def dB (k : Nat) (d : Int) : Bool :=
  if hasB (shapeN k) 99 then decide (0 ≤ d) && decide (d ≤ 13) else (decide (d = 0) || hasB (shapeN k) 100) && decide (0 ≤ d) && decide (d ≤ 7)
def canB (op d n m imm : Int) : Bool := decide (0 ≤ op) && decide (op ≤ 20) && dB op.toNat d && restB op.toNat n m imm
set_option maxRecDepth 100000 in
set_option maxHeartbeats 40000000 in
theorem can (op d n m imm : Int) (w : World) : Calls Tryz.prog 45 #[ins op d n m imm] w fun e w' => e = .returned (.bool (canB op d n m imm)) ∧ Below w.heap.size w w' := by
  by_cases h0 : op < 0
  · have hfin : canB op d n m imm = false := by unfold canB; rw [decide_eq_false (by omega)]; rfl
    have HF := Lib.hid hfin
    clear hfin
    go_enter Tryz.func45, Tryz.ntmps45
    go_wp2
    go_ret
    exact ⟨by rw [HF.out]; rfl, (Below.refl _ _).alloc (Nat.le_refl _) _⟩
  by_cases h20 : 20 < op
  · have hfin : canB op d n m imm = false := by unfold canB; rw [decide_eq_false (show ¬ op ≤ 20 by omega)]; simp
    have HF := Lib.hid hfin
    clear hfin
    go_enter Tryz.func45, Tryz.ntmps45
    go_wp2
    go_ret
    exact ⟨by rw [HF.out]; rfl, (Below.refl _ _).alloc (Nat.le_refl _) _⟩
  obtain ⟨k, rfl⟩ := Int.eq_ofNat_of_zero_le (by omega : 0 ≤ op)
  have hk : k < 21 := by omega
  have hcan : canB k d n m imm = (dB k d && restB k n m imm) := by
    unfold canB; rw [decide_eq_true (by omega), decide_eq_true (by omega)]; rfl
  have HC := Lib.hid hcan
  have hsz := shape_size k hk
  have hsh := shape k hk
  have hhas := fun c (hc : c < 256) w => has (shapeN k) c (by omega) hc w
  have h99 := hhas 99 (by decide); have h100 := hhas 100 (by decide); have h110 := hhas 110 (by decide); have h109 := hhas 109 (by decide)
  have hlow := low k hk; have hhigh := high k hk
  have hd : dB k d = _ := rfl
  have hr : restB k n m imm = _ := rfl
  conv at hd => rhs; unfold dB
  conv at hr => rhs; unfold restB
  generalize hasB (shapeN k) 99 = f99 at h99 hd
  generalize hasB (shapeN k) 100 = f100 at h100 hd
  generalize hasB (shapeN k) 110 = f110 at h110 hr
  generalize hasB (shapeN k) 109 = f109 at h109 hr
  generalize shapeN k = S at *
  generalize lowN k = lo at *
  generalize highN k = hi at *
  have HSH := Lib.hid hsh; have H99 := Lib.hid h99; have H100 := Lib.hid h100; have H110 := Lib.hid h110; have H109 := Lib.hid h109; have HL := Lib.hid hlow; have HH := Lib.hid hhigh; have HD := Lib.hid hd; have HR := Lib.hid hr
  clear hsh h99 h100 h110 h109 hlow hhigh hd hr hhas hcan hsz
  go_enter Tryz.func45, Tryz.ntmps45
  go_upto_if 16 with (first | (go_at_call 42; refine (HSH.out _).mono ?_; rintro e w1 ⟨rfl, hb1⟩) | (go_at_call 63; refine (H99.out _).mono ?_; rintro e w1 ⟨rfl, rfl⟩))
  have hz := hb1.size
  simp at hz
  have hcc : ∀ j, w1.cell? ⟨w.heap.size, j, none⟩ = (w.alloc (.cells #[.int .i64 k, .int .i64 d, .int .i64 n, .int .i64 m, .int .i64 imm] 50)).cell? ⟨w.heap.size, j, none⟩ := fun j => hb1.cell (p := ⟨_, _, _⟩) (by simp)
  have q0 : w1.cell? ⟨w.heap.size, 0, none⟩ = some (.int .i64 k) := by rw [hcc 0, World.cell?_alloc_at _ _ _ _ rfl]; rfl
  have q1 : w1.cell? ⟨w.heap.size, 1, none⟩ = some (.int .i64 d) := by rw [hcc 1, World.cell?_alloc_at _ _ _ _ rfl]; rfl
  have q2 : w1.cell? ⟨w.heap.size, 2, none⟩ = some (.int .i64 n) := by rw [hcc 2, World.cell?_alloc_at _ _ _ _ rfl]; rfl
  have q3 : w1.cell? ⟨w.heap.size, 3, none⟩ = some (.int .i64 m) := by rw [hcc 3, World.cell?_alloc_at _ _ _ _ rfl]; rfl
  have q4 : w1.cell? ⟨w.heap.size, 4, none⟩ = some (.int .i64 imm) := by rw [hcc 4, World.cell?_alloc_at _ _ _ _ rfl]; rfl
  have hbw : Below w.heap.size w w1 := ((Below.refl _ _).alloc (Nat.le_refl _) _).trans (hb1.mono (by simp))
  have HB := Lib.hid hbw
  clear hcc hb1 hbw
  go_cut [] (fun wx => dB k d = true ∧ w1 = wx)
  case first =>
    cases f99
    · by_cases d0 : d = 0
      · subst d0
        have hd2 : dB k 0 = true := by rw [HD.out]; simp
        have HDB := Lib.hid hd2
        clear hd2
        go_wp2_with (go_at_call 63; refine (H100.out _).mono ?_; rintro e w2 ⟨rfl, rfl⟩)
        go_meet
        exact ⟨HDB.out, rfl⟩
      · have e0 : (d != 0) = true := by simp [d0]
        have D0 : Hid (¬ d = 0) := Lib.hid d0
        clear d0
        cases f100
        · have hd2 : dB k d = false := by rw [HD.out]; simp [D0.out]
          have HDB := Lib.hid hd2
          clear hd2
          go_wp2_with (go_at_call 63; refine (H100.out _).mono ?_; rintro e w2 ⟨rfl, rfl⟩)
          go_ret
          exact ⟨by rw [HC.out, HDB.out]; rfl, HB.out⟩
        · by_cases n0 : d < 0
          · have hd2 : dB k d = false := by rw [HD.out]; simp; omega
            have HDB := Lib.hid hd2
            clear hd2
            go_wp2_with (go_at_call 63; refine (H100.out _).mono ?_; rintro e w2 ⟨rfl, rfl⟩)
            go_ret
            exact ⟨by rw [HC.out, HDB.out]; rfl, HB.out⟩
          · by_cases n7 : 7 < d
            · have hd2 : dB k d = false := by rw [HD.out]; simp; omega
              have HDB := Lib.hid hd2
              clear hd2
              go_wp2_with (go_at_call 63; refine (H100.out _).mono ?_; rintro e w2 ⟨rfl, rfl⟩)
              go_ret
              exact ⟨by rw [HC.out, HDB.out]; rfl, HB.out⟩
            · have hd2 : dB k d = true := by rw [HD.out]; simp; omega
              have HDB := Lib.hid hd2
              clear hd2
              go_wp2_with (go_at_call 63; refine (H100.out _).mono ?_; rintro e w2 ⟨rfl, rfl⟩)
              go_meet
              exact ⟨HDB.out, rfl⟩
    · by_cases n0 : d < 0
      · have hd2 : dB k d = false := by rw [HD.out]; simp; omega
        have HDB := Lib.hid hd2
        clear hd2
        go_wp2_with (go_at_call 63; refine (H100.out _).mono ?_; rintro e w2 ⟨rfl, rfl⟩)
        go_ret
        exact ⟨by rw [HC.out, HDB.out]; rfl, HB.out⟩
      · by_cases n13 : 13 < d
        · have hd2 : dB k d = false := by rw [HD.out]; simp; omega
          have HDB := Lib.hid hd2
          clear hd2
          go_wp2_with (go_at_call 63; refine (H100.out _).mono ?_; rintro e w2 ⟨rfl, rfl⟩)
          go_ret
          exact ⟨by rw [HC.out, HDB.out]; rfl, HB.out⟩
        · have hd2 : dB k d = true := by rw [HD.out]; simp; omega
          have HDB := Lib.hid hd2
          clear hd2
          go_wp2_with (go_at_call 63; refine (H100.out _).mono ?_; rintro e w2 ⟨rfl, rfl⟩)
          go_meet
          exact ⟨HDB.out, rfl⟩
  case rest =>
    obtain ⟨hdb, rfl⟩ := hcut
    have HDB := Lib.hid hdb
    have hq110 := fun w => (H110.out w).mono (fun e w' (h : e = .returned (.bool f110) ∧ w = w') => show e = .returned (.bool f110) ∧ Below w.heap.size w w' from ⟨h.1, h.2 ▸ Below.refl _ _⟩)
    have hq109 := fun w => (H109.out w).mono (fun e w' (h : e = .returned (.bool f109) ∧ w = w') => show e = .returned (.bool f109) ∧ Below w.heap.size w w' from ⟨h.1, h.2 ▸ Below.refl _ _⟩)
    have Q110 := Lib.hid hq110; have Q109 := Lib.hid hq109
    have r0 := fun d os => cell_regrown q0 d os
    have r2 := fun d os => cell_regrown q2 d os
    have r3 := fun d os => cell_regrown q3 d os
    have r4 := fun d os => cell_regrown q4 d os
    clear hdb q0 q1 q2 q3 q4 hq110 hq109 hz
    by_cases n0 : n = 0
    · subst n0
      by_cases m0 : m = 0
      · subst m0
        by_cases i0 : imm < lo
        · have x1 : decide (lo ≤ imm) = false := by simp; omega
          have hr2 : restB k 0 0 imm = false := by rw [HR.out]; rw [x1]; simp
          have HRB := Lib.hid hr2
          clear hr2
          go_wp2_with fail
          refine wp_region_quiet_below (by kernel_rfl) (by kernel_rfl) ?_
          repeat (go_big_quiet_step ((first | (go_at_call_of 63 (Value.int .u8 110); exact Calls.regrown_of (Q110.out _)) | (go_at_call_of 63 (Value.int .u8 109); exact Calls.regrown_of (Q109.out _)) | (go_at_call 43; exact Calls.regrown_of (HL.out _)) | (go_at_call 44; exact Calls.regrown_of (HH.out _)))))
          refine wpQuiet_nil ?_
          intro _ hw'
          obtain ⟨⟨dq, osq⟩, hw''⟩ := hw'
          subst hw''
          go_wp2_with fail
          go_ret
          exact ⟨by rw [HC.out, HDB.out, HRB.out]; rfl, HB.out.trans ((below_regrown _ dq osq).mono HB.out.size)⟩
        · have x1 : decide (lo ≤ imm) = true := by simp; omega
          by_cases i1 : hi < imm
          · have z1 : decide (imm ≤ hi) = false := by simp; omega
            have hr2 : restB k 0 0 imm = false := by rw [HR.out]; rw [z1]; simp
            have HRB := Lib.hid hr2
            clear hr2
            go_wp2_with fail
            refine wp_region_quiet_below (by kernel_rfl) (by kernel_rfl) ?_
            repeat (go_big_quiet_step ((first | (go_at_call_of 63 (Value.int .u8 110); exact Calls.regrown_of (Q110.out _)) | (go_at_call_of 63 (Value.int .u8 109); exact Calls.regrown_of (Q109.out _)) | (go_at_call 43; exact Calls.regrown_of (HL.out _)) | (go_at_call 44; exact Calls.regrown_of (HH.out _)))))
            refine wpQuiet_nil ?_
            intro _ hw'
            obtain ⟨⟨dq, osq⟩, hw''⟩ := hw'
            subst hw''
            go_wp2_with fail
            go_ret
            exact ⟨by rw [HC.out, HDB.out, HRB.out]; rfl, HB.out.trans ((below_regrown _ dq osq).mono HB.out.size)⟩
          · have z1 : decide (imm ≤ hi) = true := by simp; omega
            have hr2 : restB k 0 0 imm = true := by rw [HR.out]; rw [x1, z1]; simp [*]
            have HRB := Lib.hid hr2
            clear hr2
            go_wp2_with fail
            refine wp_region_quiet_below (by kernel_rfl) (by kernel_rfl) ?_
            repeat (go_big_quiet_step ((first | (go_at_call_of 63 (Value.int .u8 110); exact Calls.regrown_of (Q110.out _)) | (go_at_call_of 63 (Value.int .u8 109); exact Calls.regrown_of (Q109.out _)) | (go_at_call 43; exact Calls.regrown_of (HL.out _)) | (go_at_call 44; exact Calls.regrown_of (HH.out _)))))
            refine wpQuiet_nil ?_
            intro _ hw'
            obtain ⟨⟨dq, osq⟩, hw''⟩ := hw'
            subst hw''
            go_wp2_with fail
            go_ret
            exact ⟨by rw [HC.out, HDB.out, HRB.out]; rfl, HB.out.trans ((below_regrown _ dq osq).mono HB.out.size)⟩
      · have e1 : (m == 0) = false := by simp [m0]
        have M0 : Hid (¬ m = 0) := Lib.hid m0
        clear m0
        cases f109
        · have hr2 : restB k 0 m imm = false := by rw [HR.out]; simp [M0.out]
          have HRB := Lib.hid hr2
          clear hr2
          go_wp2_with fail
          refine wp_region_quiet_below (by kernel_rfl) (by kernel_rfl) ?_
          repeat (go_big_quiet_step ((first | (go_at_call_of 63 (Value.int .u8 110); exact Calls.regrown_of (Q110.out _)) | (go_at_call_of 63 (Value.int .u8 109); exact Calls.regrown_of (Q109.out _)) | (go_at_call 43; exact Calls.regrown_of (HL.out _)) | (go_at_call 44; exact Calls.regrown_of (HH.out _)))))
          refine wpQuiet_nil ?_
          intro _ hw'
          obtain ⟨⟨dq, osq⟩, hw''⟩ := hw'
          subst hw''
          go_wp2_with fail
          go_ret
          exact ⟨by rw [HC.out, HDB.out, HRB.out]; rfl, HB.out.trans ((below_regrown _ dq osq).mono HB.out.size)⟩
        · by_cases l0 : m < 0
          · have y0 : decide (0 ≤ m) = false := by simp; omega
            have hr2 : restB k 0 m imm = false := by rw [HR.out]; rw [y0]; simp
            have HRB := Lib.hid hr2
            clear hr2
            go_wp2_with fail
            refine wp_region_quiet_below (by kernel_rfl) (by kernel_rfl) ?_
            repeat (go_big_quiet_step ((first | (go_at_call_of 63 (Value.int .u8 110); exact Calls.regrown_of (Q110.out _)) | (go_at_call_of 63 (Value.int .u8 109); exact Calls.regrown_of (Q109.out _)) | (go_at_call 43; exact Calls.regrown_of (HL.out _)) | (go_at_call 44; exact Calls.regrown_of (HH.out _)))))
            refine wpQuiet_nil ?_
            intro _ hw'
            obtain ⟨⟨dq, osq⟩, hw''⟩ := hw'
            subst hw''
            go_wp2_with fail
            go_ret
            exact ⟨by rw [HC.out, HDB.out, HRB.out]; rfl, HB.out.trans ((below_regrown _ dq osq).mono HB.out.size)⟩
          · have y0 : decide (0 ≤ m) = true := by simp; omega
            by_cases l7 : 7 < m
            · have y7 : decide (m ≤ 7) = false := by simp; omega
              have hr2 : restB k 0 m imm = false := by rw [HR.out]; rw [y7]; simp
              have HRB := Lib.hid hr2
              clear hr2
              go_wp2_with fail
              refine wp_region_quiet_below (by kernel_rfl) (by kernel_rfl) ?_
              repeat (go_big_quiet_step ((first | (go_at_call_of 63 (Value.int .u8 110); exact Calls.regrown_of (Q110.out _)) | (go_at_call_of 63 (Value.int .u8 109); exact Calls.regrown_of (Q109.out _)) | (go_at_call 43; exact Calls.regrown_of (HL.out _)) | (go_at_call 44; exact Calls.regrown_of (HH.out _)))))
              refine wpQuiet_nil ?_
              intro _ hw'
              obtain ⟨⟨dq, osq⟩, hw''⟩ := hw'
              subst hw''
              go_wp2_with fail
              go_ret
              exact ⟨by rw [HC.out, HDB.out, HRB.out]; rfl, HB.out.trans ((below_regrown _ dq osq).mono HB.out.size)⟩
            · have y7 : decide (m ≤ 7) = true := by simp; omega
              by_cases i0 : imm < lo
              · have x1 : decide (lo ≤ imm) = false := by simp; omega
                have hr2 : restB k 0 m imm = false := by rw [HR.out]; rw [x1]; simp
                have HRB := Lib.hid hr2
                clear hr2
                go_wp2_with fail
                refine wp_region_quiet_below (by kernel_rfl) (by kernel_rfl) ?_
                repeat (go_big_quiet_step ((first | (go_at_call_of 63 (Value.int .u8 110); exact Calls.regrown_of (Q110.out _)) | (go_at_call_of 63 (Value.int .u8 109); exact Calls.regrown_of (Q109.out _)) | (go_at_call 43; exact Calls.regrown_of (HL.out _)) | (go_at_call 44; exact Calls.regrown_of (HH.out _)))))
                refine wpQuiet_nil ?_
                intro _ hw'
                obtain ⟨⟨dq, osq⟩, hw''⟩ := hw'
                subst hw''
                go_wp2_with fail
                go_ret
                exact ⟨by rw [HC.out, HDB.out, HRB.out]; rfl, HB.out.trans ((below_regrown _ dq osq).mono HB.out.size)⟩
              · have x1 : decide (lo ≤ imm) = true := by simp; omega
                by_cases i1 : hi < imm
                · have z1 : decide (imm ≤ hi) = false := by simp; omega
                  have hr2 : restB k 0 m imm = false := by rw [HR.out]; rw [z1]; simp
                  have HRB := Lib.hid hr2
                  clear hr2
                  go_wp2_with fail
                  refine wp_region_quiet_below (by kernel_rfl) (by kernel_rfl) ?_
                  repeat (go_big_quiet_step ((first | (go_at_call_of 63 (Value.int .u8 110); exact Calls.regrown_of (Q110.out _)) | (go_at_call_of 63 (Value.int .u8 109); exact Calls.regrown_of (Q109.out _)) | (go_at_call 43; exact Calls.regrown_of (HL.out _)) | (go_at_call 44; exact Calls.regrown_of (HH.out _)))))
                  refine wpQuiet_nil ?_
                  intro _ hw'
                  obtain ⟨⟨dq, osq⟩, hw''⟩ := hw'
                  subst hw''
                  go_wp2_with fail
                  go_ret
                  exact ⟨by rw [HC.out, HDB.out, HRB.out]; rfl, HB.out.trans ((below_regrown _ dq osq).mono HB.out.size)⟩
                · have z1 : decide (imm ≤ hi) = true := by simp; omega
                  have hr2 : restB k 0 m imm = true := by rw [HR.out]; rw [x1, z1]; simp [*]
                  have HRB := Lib.hid hr2
                  clear hr2
                  go_wp2_with fail
                  refine wp_region_quiet_below (by kernel_rfl) (by kernel_rfl) ?_
                  repeat (go_big_quiet_step ((first | (go_at_call_of 63 (Value.int .u8 110); exact Calls.regrown_of (Q110.out _)) | (go_at_call_of 63 (Value.int .u8 109); exact Calls.regrown_of (Q109.out _)) | (go_at_call 43; exact Calls.regrown_of (HL.out _)) | (go_at_call 44; exact Calls.regrown_of (HH.out _)))))
                  refine wpQuiet_nil ?_
                  intro _ hw'
                  obtain ⟨⟨dq, osq⟩, hw''⟩ := hw'
                  subst hw''
                  go_wp2_with fail
                  go_ret
                  exact ⟨by rw [HC.out, HDB.out, HRB.out]; rfl, HB.out.trans ((below_regrown _ dq osq).mono HB.out.size)⟩
    · have e0 : (n == 0) = false := by simp [n0]
      have N0 : Hid (¬ n = 0) := Lib.hid n0
      clear n0
      cases f110
      · have hr2 : restB k n m imm = false := by rw [HR.out]; simp [N0.out]
        have HRB := Lib.hid hr2
        clear hr2
        go_wp2_with fail
        refine wp_region_quiet_below (by kernel_rfl) (by kernel_rfl) ?_
        repeat (go_big_quiet_step ((first | (go_at_call_of 63 (Value.int .u8 110); exact Calls.regrown_of (Q110.out _)) | (go_at_call_of 63 (Value.int .u8 109); exact Calls.regrown_of (Q109.out _)) | (go_at_call 43; exact Calls.regrown_of (HL.out _)) | (go_at_call 44; exact Calls.regrown_of (HH.out _)))))
        refine wpQuiet_nil ?_
        intro _ hw'
        obtain ⟨⟨dq, osq⟩, hw''⟩ := hw'
        subst hw''
        go_wp2_with fail
        go_ret
        exact ⟨by rw [HC.out, HDB.out, HRB.out]; rfl, HB.out.trans ((below_regrown _ dq osq).mono HB.out.size)⟩
      · by_cases j0 : n < 0
        · have x0 : decide (0 ≤ n) = false := by simp; omega
          have hr2 : restB k n m imm = false := by rw [HR.out]; rw [x0]; simp
          have HRB := Lib.hid hr2
          clear hr2
          go_wp2_with fail
          refine wp_region_quiet_below (by kernel_rfl) (by kernel_rfl) ?_
          repeat (go_big_quiet_step ((first | (go_at_call_of 63 (Value.int .u8 110); exact Calls.regrown_of (Q110.out _)) | (go_at_call_of 63 (Value.int .u8 109); exact Calls.regrown_of (Q109.out _)) | (go_at_call 43; exact Calls.regrown_of (HL.out _)) | (go_at_call 44; exact Calls.regrown_of (HH.out _)))))
          refine wpQuiet_nil ?_
          intro _ hw'
          obtain ⟨⟨dq, osq⟩, hw''⟩ := hw'
          subst hw''
          go_wp2_with fail
          go_ret
          exact ⟨by rw [HC.out, HDB.out, HRB.out]; rfl, HB.out.trans ((below_regrown _ dq osq).mono HB.out.size)⟩
        · have x0 : decide (0 ≤ n) = true := by simp; omega
          by_cases j7 : 7 < n
          · have x7 : decide (n ≤ 7) = false := by simp; omega
            have hr2 : restB k n m imm = false := by rw [HR.out]; rw [x7]; simp
            have HRB := Lib.hid hr2
            clear hr2
            go_wp2_with fail
            refine wp_region_quiet_below (by kernel_rfl) (by kernel_rfl) ?_
            repeat (go_big_quiet_step ((first | (go_at_call_of 63 (Value.int .u8 110); exact Calls.regrown_of (Q110.out _)) | (go_at_call_of 63 (Value.int .u8 109); exact Calls.regrown_of (Q109.out _)) | (go_at_call 43; exact Calls.regrown_of (HL.out _)) | (go_at_call 44; exact Calls.regrown_of (HH.out _)))))
            refine wpQuiet_nil ?_
            intro _ hw'
            obtain ⟨⟨dq, osq⟩, hw''⟩ := hw'
            subst hw''
            go_wp2_with fail
            go_ret
            exact ⟨by rw [HC.out, HDB.out, HRB.out]; rfl, HB.out.trans ((below_regrown _ dq osq).mono HB.out.size)⟩
          · have x7 : decide (n ≤ 7) = true := by simp; omega
            by_cases m0 : m = 0
            · subst m0
              by_cases i0 : imm < lo
              · have x1 : decide (lo ≤ imm) = false := by simp; omega
                have hr2 : restB k n 0 imm = false := by rw [HR.out]; rw [x1]; simp
                have HRB := Lib.hid hr2
                clear hr2
                go_wp2_with fail
                refine wp_region_quiet_below (by kernel_rfl) (by kernel_rfl) ?_
                repeat (go_big_quiet_step ((first | (go_at_call_of 63 (Value.int .u8 110); exact Calls.regrown_of (Q110.out _)) | (go_at_call_of 63 (Value.int .u8 109); exact Calls.regrown_of (Q109.out _)) | (go_at_call 43; exact Calls.regrown_of (HL.out _)) | (go_at_call 44; exact Calls.regrown_of (HH.out _)))))
                refine wpQuiet_nil ?_
                intro _ hw'
                obtain ⟨⟨dq, osq⟩, hw''⟩ := hw'
                subst hw''
                go_wp2_with fail
                go_ret
                exact ⟨by rw [HC.out, HDB.out, HRB.out]; rfl, HB.out.trans ((below_regrown _ dq osq).mono HB.out.size)⟩
              · have x1 : decide (lo ≤ imm) = true := by simp; omega
                by_cases i1 : hi < imm
                · have z1 : decide (imm ≤ hi) = false := by simp; omega
                  have hr2 : restB k n 0 imm = false := by rw [HR.out]; rw [z1]; simp
                  have HRB := Lib.hid hr2
                  clear hr2
                  go_wp2_with fail
                  refine wp_region_quiet_below (by kernel_rfl) (by kernel_rfl) ?_
                  repeat (go_big_quiet_step ((first | (go_at_call_of 63 (Value.int .u8 110); exact Calls.regrown_of (Q110.out _)) | (go_at_call_of 63 (Value.int .u8 109); exact Calls.regrown_of (Q109.out _)) | (go_at_call 43; exact Calls.regrown_of (HL.out _)) | (go_at_call 44; exact Calls.regrown_of (HH.out _)))))
                  refine wpQuiet_nil ?_
                  intro _ hw'
                  obtain ⟨⟨dq, osq⟩, hw''⟩ := hw'
                  subst hw''
                  go_wp2_with fail
                  go_ret
                  exact ⟨by rw [HC.out, HDB.out, HRB.out]; rfl, HB.out.trans ((below_regrown _ dq osq).mono HB.out.size)⟩
                · have z1 : decide (imm ≤ hi) = true := by simp; omega
                  have hr2 : restB k n 0 imm = true := by rw [HR.out]; rw [x1, z1]; simp [*]
                  have HRB := Lib.hid hr2
                  clear hr2
                  go_wp2_with fail
                  refine wp_region_quiet_below (by kernel_rfl) (by kernel_rfl) ?_
                  repeat (go_big_quiet_step ((first | (go_at_call_of 63 (Value.int .u8 110); exact Calls.regrown_of (Q110.out _)) | (go_at_call_of 63 (Value.int .u8 109); exact Calls.regrown_of (Q109.out _)) | (go_at_call 43; exact Calls.regrown_of (HL.out _)) | (go_at_call 44; exact Calls.regrown_of (HH.out _)))))
                  refine wpQuiet_nil ?_
                  intro _ hw'
                  obtain ⟨⟨dq, osq⟩, hw''⟩ := hw'
                  subst hw''
                  go_wp2_with fail
                  go_ret
                  exact ⟨by rw [HC.out, HDB.out, HRB.out]; rfl, HB.out.trans ((below_regrown _ dq osq).mono HB.out.size)⟩
            · have e1 : (m == 0) = false := by simp [m0]
              have M0 : Hid (¬ m = 0) := Lib.hid m0
              clear m0
              cases f109
              · have hr2 : restB k n m imm = false := by rw [HR.out]; simp [M0.out]
                have HRB := Lib.hid hr2
                clear hr2
                go_wp2_with fail
                refine wp_region_quiet_below (by kernel_rfl) (by kernel_rfl) ?_
                repeat (go_big_quiet_step ((first | (go_at_call_of 63 (Value.int .u8 110); exact Calls.regrown_of (Q110.out _)) | (go_at_call_of 63 (Value.int .u8 109); exact Calls.regrown_of (Q109.out _)) | (go_at_call 43; exact Calls.regrown_of (HL.out _)) | (go_at_call 44; exact Calls.regrown_of (HH.out _)))))
                refine wpQuiet_nil ?_
                intro _ hw'
                obtain ⟨⟨dq, osq⟩, hw''⟩ := hw'
                subst hw''
                go_wp2_with fail
                go_ret
                exact ⟨by rw [HC.out, HDB.out, HRB.out]; rfl, HB.out.trans ((below_regrown _ dq osq).mono HB.out.size)⟩
              · by_cases l0 : m < 0
                · have y0 : decide (0 ≤ m) = false := by simp; omega
                  have hr2 : restB k n m imm = false := by rw [HR.out]; rw [y0]; simp
                  have HRB := Lib.hid hr2
                  clear hr2
                  go_wp2_with fail
                  refine wp_region_quiet_below (by kernel_rfl) (by kernel_rfl) ?_
                  repeat (go_big_quiet_step ((first | (go_at_call_of 63 (Value.int .u8 110); exact Calls.regrown_of (Q110.out _)) | (go_at_call_of 63 (Value.int .u8 109); exact Calls.regrown_of (Q109.out _)) | (go_at_call 43; exact Calls.regrown_of (HL.out _)) | (go_at_call 44; exact Calls.regrown_of (HH.out _)))))
                  refine wpQuiet_nil ?_
                  intro _ hw'
                  obtain ⟨⟨dq, osq⟩, hw''⟩ := hw'
                  subst hw''
                  go_wp2_with fail
                  go_ret
                  exact ⟨by rw [HC.out, HDB.out, HRB.out]; rfl, HB.out.trans ((below_regrown _ dq osq).mono HB.out.size)⟩
                · have y0 : decide (0 ≤ m) = true := by simp; omega
                  by_cases l7 : 7 < m
                  · have y7 : decide (m ≤ 7) = false := by simp; omega
                    have hr2 : restB k n m imm = false := by rw [HR.out]; rw [y7]; simp
                    have HRB := Lib.hid hr2
                    clear hr2
                    go_wp2_with fail
                    refine wp_region_quiet_below (by kernel_rfl) (by kernel_rfl) ?_
                    repeat (go_big_quiet_step ((first | (go_at_call_of 63 (Value.int .u8 110); exact Calls.regrown_of (Q110.out _)) | (go_at_call_of 63 (Value.int .u8 109); exact Calls.regrown_of (Q109.out _)) | (go_at_call 43; exact Calls.regrown_of (HL.out _)) | (go_at_call 44; exact Calls.regrown_of (HH.out _)))))
                    refine wpQuiet_nil ?_
                    intro _ hw'
                    obtain ⟨⟨dq, osq⟩, hw''⟩ := hw'
                    subst hw''
                    go_wp2_with fail
                    go_ret
                    exact ⟨by rw [HC.out, HDB.out, HRB.out]; rfl, HB.out.trans ((below_regrown _ dq osq).mono HB.out.size)⟩
                  · have y7 : decide (m ≤ 7) = true := by simp; omega
                    by_cases i0 : imm < lo
                    · have x1 : decide (lo ≤ imm) = false := by simp; omega
                      have hr2 : restB k n m imm = false := by rw [HR.out]; rw [x1]; simp
                      have HRB := Lib.hid hr2
                      clear hr2
                      go_wp2_with fail
                      refine wp_region_quiet_below (by kernel_rfl) (by kernel_rfl) ?_
                      repeat (go_big_quiet_step ((first | (go_at_call_of 63 (Value.int .u8 110); exact Calls.regrown_of (Q110.out _)) | (go_at_call_of 63 (Value.int .u8 109); exact Calls.regrown_of (Q109.out _)) | (go_at_call 43; exact Calls.regrown_of (HL.out _)) | (go_at_call 44; exact Calls.regrown_of (HH.out _)))))
                      refine wpQuiet_nil ?_
                      intro _ hw'
                      obtain ⟨⟨dq, osq⟩, hw''⟩ := hw'
                      subst hw''
                      go_wp2_with fail
                      go_ret
                      exact ⟨by rw [HC.out, HDB.out, HRB.out]; rfl, HB.out.trans ((below_regrown _ dq osq).mono HB.out.size)⟩
                    · have x1 : decide (lo ≤ imm) = true := by simp; omega
                      by_cases i1 : hi < imm
                      · have z1 : decide (imm ≤ hi) = false := by simp; omega
                        have hr2 : restB k n m imm = false := by rw [HR.out]; rw [z1]; simp
                        have HRB := Lib.hid hr2
                        clear hr2
                        go_wp2_with fail
                        refine wp_region_quiet_below (by kernel_rfl) (by kernel_rfl) ?_
                        repeat (go_big_quiet_step ((first | (go_at_call_of 63 (Value.int .u8 110); exact Calls.regrown_of (Q110.out _)) | (go_at_call_of 63 (Value.int .u8 109); exact Calls.regrown_of (Q109.out _)) | (go_at_call 43; exact Calls.regrown_of (HL.out _)) | (go_at_call 44; exact Calls.regrown_of (HH.out _)))))
                        refine wpQuiet_nil ?_
                        intro _ hw'
                        obtain ⟨⟨dq, osq⟩, hw''⟩ := hw'
                        subst hw''
                        go_wp2_with fail
                        go_ret
                        exact ⟨by rw [HC.out, HDB.out, HRB.out]; rfl, HB.out.trans ((below_regrown _ dq osq).mono HB.out.size)⟩
                      · have z1 : decide (imm ≤ hi) = true := by simp; omega
                        have hr2 : restB k n m imm = true := by rw [HR.out]; rw [x1, z1]; simp [*]
                        have HRB := Lib.hid hr2
                        clear hr2
                        go_wp2_with fail
                        refine wp_region_quiet_below (by kernel_rfl) (by kernel_rfl) ?_
                        repeat (go_big_quiet_step ((first | (go_at_call_of 63 (Value.int .u8 110); exact Calls.regrown_of (Q110.out _)) | (go_at_call_of 63 (Value.int .u8 109); exact Calls.regrown_of (Q109.out _)) | (go_at_call 43; exact Calls.regrown_of (HL.out _)) | (go_at_call 44; exact Calls.regrown_of (HH.out _)))))
                        refine wpQuiet_nil ?_
                        intro _ hw'
                        obtain ⟨⟨dq, osq⟩, hw''⟩ := hw'
                        subst hw''
                        go_wp2_with fail
                        go_ret
                        exact ⟨by rw [HC.out, HDB.out, HRB.out]; rfl, HB.out.trans ((below_regrown _ dq osq).mono HB.out.size)⟩
end Go.Proofs.YtnngnfajmncjpaaGreatDoor.ThRef
