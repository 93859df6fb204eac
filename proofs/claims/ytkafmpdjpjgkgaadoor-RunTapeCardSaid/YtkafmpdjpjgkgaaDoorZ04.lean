/- DERIVED. ThCan, ThWrites, TpCan, TpCan2 in one text. By an AI agent. -/
import Derived.Test.YtkafmpdjpjgkgaaDoorZ03
import Derived.Deep.DeepCutAuto
import Derived.StillTactics
import Derived.Deep.RegionHeld3
import Derived.WalkSpells
import Derived.Lib.QuietBelow
import Derived.Deep.LoopGhost
/- DERIVED. The contract of the reference's Can. By an AI agent. -/
namespace Go.Proofs.YtkafmpdjpjgkgaaDoor.ThRef
open Go.ChangeShapes Go.WideShapes Go.ChangeAt Go.RowKit Go.Sort
set_option linter.unusedVariables false
abbrev ins (op d n m imm : Int) : Value := .agg #[.int .i64 op, .int .i64 d, .int .i64 n, .int .i64 m, .int .i64 imm]
theorem shape_size (k : Nat) (h : k < 21) : (shapeN k).size = 16 := by
  have : ∀ i : Fin 21, (shapeN i.val).size = 16 := by decide +kernel
  exact this ⟨k, h⟩
/-- What belongs to an instruction beside its Op and D. -/
def restB (k : Nat) (n m imm : Int) : Bool :=
  (decide (n = 0) || hasB (shapeN k) 110) && decide (0 ≤ n) && decide (n ≤ 7) && (decide (m = 0) || hasB (shapeN k) 109) && decide (0 ≤ m) && decide (m ≤ 7) && decide (lowN k ≤ imm) && decide (imm ≤ highN k)
def dB (k : Nat) (d : Int) : Bool :=
  if hasB (shapeN k) 99 then decide (0 ≤ d) && decide (d ≤ 13) else (decide (d = 0) || hasB (shapeN k) 100) && decide (0 ≤ d) && decide (d ≤ 7)
def canB (op d n m imm : Int) : Bool := decide (0 ≤ op) && decide (op ≤ 20) && dB op.toNat d && restB op.toNat n m imm
set_option maxRecDepth 100000 in
set_option maxHeartbeats 40000000 in
theorem can (op d n m imm : Int) (w : World) : Calls Tryd.prog 38 #[ins op d n m imm] w fun e w' => e = .returned (.bool (canB op d n m imm)) ∧ Below w.heap.size w w' := by
  by_cases h0 : op < 0
  · have hfin : canB op d n m imm = false := by unfold canB; rw [decide_eq_false (by omega)]; rfl
    have HF := Lib.hid hfin
    clear hfin
    go_enter Tryd.func38, Tryd.ntmps38
    go_wp2
    go_ret
    exact ⟨by rw [HF.out]; rfl, (Below.refl _ _).alloc (Nat.le_refl _) _⟩
  by_cases h20 : 20 < op
  · have hfin : canB op d n m imm = false := by unfold canB; rw [decide_eq_false (show ¬ op ≤ 20 by omega)]; simp
    have HF := Lib.hid hfin
    clear hfin
    go_enter Tryd.func38, Tryd.ntmps38
    go_wp2
    go_ret
    exact ⟨by rw [HF.out]; rfl, (Below.refl _ _).alloc (Nat.le_refl _) _⟩
  obtain ⟨k, rfl⟩ := Int.eq_ofNat_of_zero_le (by omega : 0 ≤ op)
  have hk : k < 21 := by omega
  have hcan : canB k d n m imm = (dB k d && restB k n m imm) := by
    unfold canB; rw [decide_eq_true (by omega), decide_eq_true (by omega)]; rfl
  have HC := Lib.hid hcan
  have hsz := shape_size k hk
  have hsh := shape k hk
  have hhas := fun c (hc : c < 256) w => has (shapeN k) c (by omega) hc w
  have h99 := hhas 99 (by decide); have h100 := hhas 100 (by decide); have h110 := hhas 110 (by decide); have h109 := hhas 109 (by decide)
  have hlow := low k hk; have hhigh := high k hk
  have hd : dB k d = _ := rfl
  have hr : restB k n m imm = _ := rfl
  conv at hd => rhs; unfold dB
  conv at hr => rhs; unfold restB
  generalize hasB (shapeN k) 99 = f99 at h99 hd
  generalize hasB (shapeN k) 100 = f100 at h100 hd
  generalize hasB (shapeN k) 110 = f110 at h110 hr
  generalize hasB (shapeN k) 109 = f109 at h109 hr
  generalize shapeN k = S at *
  generalize lowN k = lo at *
  generalize highN k = hi at *
  have HSH := Lib.hid hsh; have H99 := Lib.hid h99; have H100 := Lib.hid h100; have H110 := Lib.hid h110; have H109 := Lib.hid h109; have HL := Lib.hid hlow; have HH := Lib.hid hhigh; have HD := Lib.hid hd; have HR := Lib.hid hr
  clear hsh h99 h100 h110 h109 hlow hhigh hd hr hhas hcan hsz
  go_enter Tryd.func38, Tryd.ntmps38
  go_upto_if 16 with (first | (go_at_call 35; refine (HSH.out _).mono ?_; rintro e w1 ⟨rfl, hb1⟩) | (go_at_call 53; refine (H99.out _).mono ?_; rintro e w1 ⟨rfl, rfl⟩))
  have hz := hb1.size
  simp at hz
  have hcc : ∀ j, w1.cell? ⟨w.heap.size, j, none⟩ = (w.alloc (.cells #[.int .i64 k, .int .i64 d, .int .i64 n, .int .i64 m, .int .i64 imm] 58)).cell? ⟨w.heap.size, j, none⟩ := fun j => hb1.cell (p := ⟨_, _, _⟩) (by simp)
  have q0 : w1.cell? ⟨w.heap.size, 0, none⟩ = some (.int .i64 k) := by rw [hcc 0, World.cell?_alloc_at _ _ _ _ rfl]; rfl
  have q1 : w1.cell? ⟨w.heap.size, 1, none⟩ = some (.int .i64 d) := by rw [hcc 1, World.cell?_alloc_at _ _ _ _ rfl]; rfl
  have q2 : w1.cell? ⟨w.heap.size, 2, none⟩ = some (.int .i64 n) := by rw [hcc 2, World.cell?_alloc_at _ _ _ _ rfl]; rfl
  have q3 : w1.cell? ⟨w.heap.size, 3, none⟩ = some (.int .i64 m) := by rw [hcc 3, World.cell?_alloc_at _ _ _ _ rfl]; rfl
  have q4 : w1.cell? ⟨w.heap.size, 4, none⟩ = some (.int .i64 imm) := by rw [hcc 4, World.cell?_alloc_at _ _ _ _ rfl]; rfl
  have hbw : Below w.heap.size w w1 := ((Below.refl _ _).alloc (Nat.le_refl _) _).trans (hb1.mono (by simp))
  have HB := Lib.hid hbw
  clear hcc hb1 hbw
  go_cut [] (fun wx => dB k d = true ∧ w1 = wx)
  case first =>
    cases f99
    · by_cases d0 : d = 0
      · subst d0
        have hd2 : dB k 0 = true := by rw [HD.out]; simp
        have HDB := Lib.hid hd2
        clear hd2
        go_wp2_with (go_at_call 53; refine (H100.out _).mono ?_; rintro e w2 ⟨rfl, rfl⟩)
        go_meet
        exact ⟨HDB.out, rfl⟩
      · have e0 : (d != 0) = true := by simp [d0]
        have D0 : Hid (¬ d = 0) := Lib.hid d0
        clear d0
        cases f100
        · have hd2 : dB k d = false := by rw [HD.out]; simp [D0.out]
          have HDB := Lib.hid hd2
          clear hd2
          go_wp2_with (go_at_call 53; refine (H100.out _).mono ?_; rintro e w2 ⟨rfl, rfl⟩)
          go_ret
          exact ⟨by rw [HC.out, HDB.out]; rfl, HB.out⟩
        · by_cases n0 : d < 0
          · have hd2 : dB k d = false := by rw [HD.out]; simp; omega
            have HDB := Lib.hid hd2
            clear hd2
            go_wp2_with (go_at_call 53; refine (H100.out _).mono ?_; rintro e w2 ⟨rfl, rfl⟩)
            go_ret
            exact ⟨by rw [HC.out, HDB.out]; rfl, HB.out⟩
          · by_cases n7 : 7 < d
            · have hd2 : dB k d = false := by rw [HD.out]; simp; omega
              have HDB := Lib.hid hd2
              clear hd2
              go_wp2_with (go_at_call 53; refine (H100.out _).mono ?_; rintro e w2 ⟨rfl, rfl⟩)
              go_ret
              exact ⟨by rw [HC.out, HDB.out]; rfl, HB.out⟩
            · have hd2 : dB k d = true := by rw [HD.out]; simp; omega
              have HDB := Lib.hid hd2
              clear hd2
              go_wp2_with (go_at_call 53; refine (H100.out _).mono ?_; rintro e w2 ⟨rfl, rfl⟩)
              go_meet
              exact ⟨HDB.out, rfl⟩
    · by_cases n0 : d < 0
      · have hd2 : dB k d = false := by rw [HD.out]; simp; omega
        have HDB := Lib.hid hd2
        clear hd2
        go_wp2_with (go_at_call 53; refine (H100.out _).mono ?_; rintro e w2 ⟨rfl, rfl⟩)
        go_ret
        exact ⟨by rw [HC.out, HDB.out]; rfl, HB.out⟩
      · by_cases n13 : 13 < d
        · have hd2 : dB k d = false := by rw [HD.out]; simp; omega
          have HDB := Lib.hid hd2
          clear hd2
          go_wp2_with (go_at_call 53; refine (H100.out _).mono ?_; rintro e w2 ⟨rfl, rfl⟩)
          go_ret
          exact ⟨by rw [HC.out, HDB.out]; rfl, HB.out⟩
        · have hd2 : dB k d = true := by rw [HD.out]; simp; omega
          have HDB := Lib.hid hd2
          clear hd2
          go_wp2_with (go_at_call 53; refine (H100.out _).mono ?_; rintro e w2 ⟨rfl, rfl⟩)
          go_meet
          exact ⟨HDB.out, rfl⟩
  case rest =>
    obtain ⟨hdb, rfl⟩ := hcut
    have HDB := Lib.hid hdb
    have hq110 := fun w => (H110.out w).mono (fun e w' (h : e = .returned (.bool f110) ∧ w = w') => show e = .returned (.bool f110) ∧ Below w.heap.size w w' from ⟨h.1, h.2 ▸ Below.refl _ _⟩)
    have hq109 := fun w => (H109.out w).mono (fun e w' (h : e = .returned (.bool f109) ∧ w = w') => show e = .returned (.bool f109) ∧ Below w.heap.size w w' from ⟨h.1, h.2 ▸ Below.refl _ _⟩)
    have Q110 := Lib.hid hq110; have Q109 := Lib.hid hq109
    have r0 := fun d os => cell_regrown q0 d os
    have r2 := fun d os => cell_regrown q2 d os
    have r3 := fun d os => cell_regrown q3 d os
    have r4 := fun d os => cell_regrown q4 d os
    clear hdb q0 q1 q2 q3 q4 hq110 hq109 hz
    by_cases n0 : n = 0
    · subst n0
      by_cases m0 : m = 0
      · subst m0
        by_cases i0 : imm < lo
        · have x1 : decide (lo ≤ imm) = false := by simp; omega
          have hr2 : restB k 0 0 imm = false := by rw [HR.out]; rw [x1]; simp
          have HRB := Lib.hid hr2
          clear hr2
          go_wp2_with fail
          refine wp_region_quiet_below (by kernel_rfl) (by kernel_rfl) ?_
          repeat (go_big_quiet_step ((first | (go_at_call_of 53 (Value.int .u8 110); exact Calls.regrown_of (Q110.out _)) | (go_at_call_of 53 (Value.int .u8 109); exact Calls.regrown_of (Q109.out _)) | (go_at_call 36; exact Calls.regrown_of (HL.out _)) | (go_at_call 37; exact Calls.regrown_of (HH.out _)))))
          refine wpQuiet_nil ?_
          intro _ hw'
          obtain ⟨⟨dq, osq⟩, hw''⟩ := hw'
          subst hw''
          go_wp2_with fail
          go_ret
          exact ⟨by rw [HC.out, HDB.out, HRB.out]; rfl, HB.out.trans ((below_regrown _ dq osq).mono HB.out.size)⟩
        · have x1 : decide (lo ≤ imm) = true := by simp; omega
          by_cases i1 : hi < imm
          · have z1 : decide (imm ≤ hi) = false := by simp; omega
            have hr2 : restB k 0 0 imm = false := by rw [HR.out]; rw [z1]; simp
            have HRB := Lib.hid hr2
            clear hr2
            go_wp2_with fail
            refine wp_region_quiet_below (by kernel_rfl) (by kernel_rfl) ?_
            repeat (go_big_quiet_step ((first | (go_at_call_of 53 (Value.int .u8 110); exact Calls.regrown_of (Q110.out _)) | (go_at_call_of 53 (Value.int .u8 109); exact Calls.regrown_of (Q109.out _)) | (go_at_call 36; exact Calls.regrown_of (HL.out _)) | (go_at_call 37; exact Calls.regrown_of (HH.out _)))))
            refine wpQuiet_nil ?_
            intro _ hw'
            obtain ⟨⟨dq, osq⟩, hw''⟩ := hw'
            subst hw''
            go_wp2_with fail
            go_ret
            exact ⟨by rw [HC.out, HDB.out, HRB.out]; rfl, HB.out.trans ((below_regrown _ dq osq).mono HB.out.size)⟩
          · have z1 : decide (imm ≤ hi) = true := by simp; omega
            have hr2 : restB k 0 0 imm = true := by rw [HR.out]; rw [x1, z1]; simp [*]
            have HRB := Lib.hid hr2
            clear hr2
            go_wp2_with fail
            refine wp_region_quiet_below (by kernel_rfl) (by kernel_rfl) ?_
            repeat (go_big_quiet_step ((first | (go_at_call_of 53 (Value.int .u8 110); exact Calls.regrown_of (Q110.out _)) | (go_at_call_of 53 (Value.int .u8 109); exact Calls.regrown_of (Q109.out _)) | (go_at_call 36; exact Calls.regrown_of (HL.out _)) | (go_at_call 37; exact Calls.regrown_of (HH.out _)))))
            refine wpQuiet_nil ?_
            intro _ hw'
            obtain ⟨⟨dq, osq⟩, hw''⟩ := hw'
            subst hw''
            go_wp2_with fail
            go_ret
            exact ⟨by rw [HC.out, HDB.out, HRB.out]; rfl, HB.out.trans ((below_regrown _ dq osq).mono HB.out.size)⟩
      · have e1 : (m == 0) = false := by simp [m0]
        have M0 : Hid (¬ m = 0) := Lib.hid m0
        clear m0
        cases f109
        · have hr2 : restB k 0 m imm = false := by rw [HR.out]; simp [M0.out]
          have HRB := Lib.hid hr2
          clear hr2
          go_wp2_with fail
          refine wp_region_quiet_below (by kernel_rfl) (by kernel_rfl) ?_
          repeat (go_big_quiet_step ((first | (go_at_call_of 53 (Value.int .u8 110); exact Calls.regrown_of (Q110.out _)) | (go_at_call_of 53 (Value.int .u8 109); exact Calls.regrown_of (Q109.out _)) | (go_at_call 36; exact Calls.regrown_of (HL.out _)) | (go_at_call 37; exact Calls.regrown_of (HH.out _)))))
          refine wpQuiet_nil ?_
          intro _ hw'
          obtain ⟨⟨dq, osq⟩, hw''⟩ := hw'
          subst hw''
          go_wp2_with fail
          go_ret
          exact ⟨by rw [HC.out, HDB.out, HRB.out]; rfl, HB.out.trans ((below_regrown _ dq osq).mono HB.out.size)⟩
        · by_cases l0 : m < 0
          · have y0 : decide (0 ≤ m) = false := by simp; omega
            have hr2 : restB k 0 m imm = false := by rw [HR.out]; rw [y0]; simp
            have HRB := Lib.hid hr2
            clear hr2
            go_wp2_with fail
            refine wp_region_quiet_below (by kernel_rfl) (by kernel_rfl) ?_
            repeat (go_big_quiet_step ((first | (go_at_call_of 53 (Value.int .u8 110); exact Calls.regrown_of (Q110.out _)) | (go_at_call_of 53 (Value.int .u8 109); exact Calls.regrown_of (Q109.out _)) | (go_at_call 36; exact Calls.regrown_of (HL.out _)) | (go_at_call 37; exact Calls.regrown_of (HH.out _)))))
            refine wpQuiet_nil ?_
            intro _ hw'
            obtain ⟨⟨dq, osq⟩, hw''⟩ := hw'
            subst hw''
            go_wp2_with fail
            go_ret
            exact ⟨by rw [HC.out, HDB.out, HRB.out]; rfl, HB.out.trans ((below_regrown _ dq osq).mono HB.out.size)⟩
          · have y0 : decide (0 ≤ m) = true := by simp; omega
            by_cases l7 : 7 < m
            · have y7 : decide (m ≤ 7) = false := by simp; omega
              have hr2 : restB k 0 m imm = false := by rw [HR.out]; rw [y7]; simp
              have HRB := Lib.hid hr2
              clear hr2
              go_wp2_with fail
              refine wp_region_quiet_below (by kernel_rfl) (by kernel_rfl) ?_
              repeat (go_big_quiet_step ((first | (go_at_call_of 53 (Value.int .u8 110); exact Calls.regrown_of (Q110.out _)) | (go_at_call_of 53 (Value.int .u8 109); exact Calls.regrown_of (Q109.out _)) | (go_at_call 36; exact Calls.regrown_of (HL.out _)) | (go_at_call 37; exact Calls.regrown_of (HH.out _)))))
              refine wpQuiet_nil ?_
              intro _ hw'
              obtain ⟨⟨dq, osq⟩, hw''⟩ := hw'
              subst hw''
              go_wp2_with fail
              go_ret
              exact ⟨by rw [HC.out, HDB.out, HRB.out]; rfl, HB.out.trans ((below_regrown _ dq osq).mono HB.out.size)⟩
            · have y7 : decide (m ≤ 7) = true := by simp; omega
              by_cases i0 : imm < lo
              · have x1 : decide (lo ≤ imm) = false := by simp; omega
                have hr2 : restB k 0 m imm = false := by rw [HR.out]; rw [x1]; simp
                have HRB := Lib.hid hr2
                clear hr2
                go_wp2_with fail
                refine wp_region_quiet_below (by kernel_rfl) (by kernel_rfl) ?_
                repeat (go_big_quiet_step ((first | (go_at_call_of 53 (Value.int .u8 110); exact Calls.regrown_of (Q110.out _)) | (go_at_call_of 53 (Value.int .u8 109); exact Calls.regrown_of (Q109.out _)) | (go_at_call 36; exact Calls.regrown_of (HL.out _)) | (go_at_call 37; exact Calls.regrown_of (HH.out _)))))
                refine wpQuiet_nil ?_
                intro _ hw'
                obtain ⟨⟨dq, osq⟩, hw''⟩ := hw'
                subst hw''
                go_wp2_with fail
                go_ret
                exact ⟨by rw [HC.out, HDB.out, HRB.out]; rfl, HB.out.trans ((below_regrown _ dq osq).mono HB.out.size)⟩
              · have x1 : decide (lo ≤ imm) = true := by simp; omega
                by_cases i1 : hi < imm
                · have z1 : decide (imm ≤ hi) = false := by simp; omega
                  have hr2 : restB k 0 m imm = false := by rw [HR.out]; rw [z1]; simp
                  have HRB := Lib.hid hr2
                  clear hr2
                  go_wp2_with fail
                  refine wp_region_quiet_below (by kernel_rfl) (by kernel_rfl) ?_
                  repeat (go_big_quiet_step ((first | (go_at_call_of 53 (Value.int .u8 110); exact Calls.regrown_of (Q110.out _)) | (go_at_call_of 53 (Value.int .u8 109); exact Calls.regrown_of (Q109.out _)) | (go_at_call 36; exact Calls.regrown_of (HL.out _)) | (go_at_call 37; exact Calls.regrown_of (HH.out _)))))
                  refine wpQuiet_nil ?_
                  intro _ hw'
                  obtain ⟨⟨dq, osq⟩, hw''⟩ := hw'
                  subst hw''
                  go_wp2_with fail
                  go_ret
                  exact ⟨by rw [HC.out, HDB.out, HRB.out]; rfl, HB.out.trans ((below_regrown _ dq osq).mono HB.out.size)⟩
                · have z1 : decide (imm ≤ hi) = true := by simp; omega
                  have hr2 : restB k 0 m imm = true := by rw [HR.out]; rw [x1, z1]; simp [*]
                  have HRB := Lib.hid hr2
                  clear hr2
                  go_wp2_with fail
                  refine wp_region_quiet_below (by kernel_rfl) (by kernel_rfl) ?_
                  repeat (go_big_quiet_step ((first | (go_at_call_of 53 (Value.int .u8 110); exact Calls.regrown_of (Q110.out _)) | (go_at_call_of 53 (Value.int .u8 109); exact Calls.regrown_of (Q109.out _)) | (go_at_call 36; exact Calls.regrown_of (HL.out _)) | (go_at_call 37; exact Calls.regrown_of (HH.out _)))))
                  refine wpQuiet_nil ?_
                  intro _ hw'
                  obtain ⟨⟨dq, osq⟩, hw''⟩ := hw'
                  subst hw''
                  go_wp2_with fail
                  go_ret
                  exact ⟨by rw [HC.out, HDB.out, HRB.out]; rfl, HB.out.trans ((below_regrown _ dq osq).mono HB.out.size)⟩
    · have e0 : (n == 0) = false := by simp [n0]
      have N0 : Hid (¬ n = 0) := Lib.hid n0
      clear n0
      cases f110
      · have hr2 : restB k n m imm = false := by rw [HR.out]; simp [N0.out]
        have HRB := Lib.hid hr2
        clear hr2
        go_wp2_with fail
        refine wp_region_quiet_below (by kernel_rfl) (by kernel_rfl) ?_
        repeat (go_big_quiet_step ((first | (go_at_call_of 53 (Value.int .u8 110); exact Calls.regrown_of (Q110.out _)) | (go_at_call_of 53 (Value.int .u8 109); exact Calls.regrown_of (Q109.out _)) | (go_at_call 36; exact Calls.regrown_of (HL.out _)) | (go_at_call 37; exact Calls.regrown_of (HH.out _)))))
        refine wpQuiet_nil ?_
        intro _ hw'
        obtain ⟨⟨dq, osq⟩, hw''⟩ := hw'
        subst hw''
        go_wp2_with fail
        go_ret
        exact ⟨by rw [HC.out, HDB.out, HRB.out]; rfl, HB.out.trans ((below_regrown _ dq osq).mono HB.out.size)⟩
      · by_cases j0 : n < 0
        · have x0 : decide (0 ≤ n) = false := by simp; omega
          have hr2 : restB k n m imm = false := by rw [HR.out]; rw [x0]; simp
          have HRB := Lib.hid hr2
          clear hr2
          go_wp2_with fail
          refine wp_region_quiet_below (by kernel_rfl) (by kernel_rfl) ?_
          repeat (go_big_quiet_step ((first | (go_at_call_of 53 (Value.int .u8 110); exact Calls.regrown_of (Q110.out _)) | (go_at_call_of 53 (Value.int .u8 109); exact Calls.regrown_of (Q109.out _)) | (go_at_call 36; exact Calls.regrown_of (HL.out _)) | (go_at_call 37; exact Calls.regrown_of (HH.out _)))))
          refine wpQuiet_nil ?_
          intro _ hw'
          obtain ⟨⟨dq, osq⟩, hw''⟩ := hw'
          subst hw''
          go_wp2_with fail
          go_ret
          exact ⟨by rw [HC.out, HDB.out, HRB.out]; rfl, HB.out.trans ((below_regrown _ dq osq).mono HB.out.size)⟩
        · have x0 : decide (0 ≤ n) = true := by simp; omega
          by_cases j7 : 7 < n
          · have x7 : decide (n ≤ 7) = false := by simp; omega
            have hr2 : restB k n m imm = false := by rw [HR.out]; rw [x7]; simp
            have HRB := Lib.hid hr2
            clear hr2
            go_wp2_with fail
            refine wp_region_quiet_below (by kernel_rfl) (by kernel_rfl) ?_
            repeat (go_big_quiet_step ((first | (go_at_call_of 53 (Value.int .u8 110); exact Calls.regrown_of (Q110.out _)) | (go_at_call_of 53 (Value.int .u8 109); exact Calls.regrown_of (Q109.out _)) | (go_at_call 36; exact Calls.regrown_of (HL.out _)) | (go_at_call 37; exact Calls.regrown_of (HH.out _)))))
            refine wpQuiet_nil ?_
            intro _ hw'
            obtain ⟨⟨dq, osq⟩, hw''⟩ := hw'
            subst hw''
            go_wp2_with fail
            go_ret
            exact ⟨by rw [HC.out, HDB.out, HRB.out]; rfl, HB.out.trans ((below_regrown _ dq osq).mono HB.out.size)⟩
          · have x7 : decide (n ≤ 7) = true := by simp; omega
            by_cases m0 : m = 0
            · subst m0
              by_cases i0 : imm < lo
              · have x1 : decide (lo ≤ imm) = false := by simp; omega
                have hr2 : restB k n 0 imm = false := by rw [HR.out]; rw [x1]; simp
                have HRB := Lib.hid hr2
                clear hr2
                go_wp2_with fail
                refine wp_region_quiet_below (by kernel_rfl) (by kernel_rfl) ?_
                repeat (go_big_quiet_step ((first | (go_at_call_of 53 (Value.int .u8 110); exact Calls.regrown_of (Q110.out _)) | (go_at_call_of 53 (Value.int .u8 109); exact Calls.regrown_of (Q109.out _)) | (go_at_call 36; exact Calls.regrown_of (HL.out _)) | (go_at_call 37; exact Calls.regrown_of (HH.out _)))))
                refine wpQuiet_nil ?_
                intro _ hw'
                obtain ⟨⟨dq, osq⟩, hw''⟩ := hw'
                subst hw''
                go_wp2_with fail
                go_ret
                exact ⟨by rw [HC.out, HDB.out, HRB.out]; rfl, HB.out.trans ((below_regrown _ dq osq).mono HB.out.size)⟩
              · have x1 : decide (lo ≤ imm) = true := by simp; omega
                by_cases i1 : hi < imm
                · have z1 : decide (imm ≤ hi) = false := by simp; omega
                  have hr2 : restB k n 0 imm = false := by rw [HR.out]; rw [z1]; simp
                  have HRB := Lib.hid hr2
                  clear hr2
                  go_wp2_with fail
                  refine wp_region_quiet_below (by kernel_rfl) (by kernel_rfl) ?_
                  repeat (go_big_quiet_step ((first | (go_at_call_of 53 (Value.int .u8 110); exact Calls.regrown_of (Q110.out _)) | (go_at_call_of 53 (Value.int .u8 109); exact Calls.regrown_of (Q109.out _)) | (go_at_call 36; exact Calls.regrown_of (HL.out _)) | (go_at_call 37; exact Calls.regrown_of (HH.out _)))))
                  refine wpQuiet_nil ?_
                  intro _ hw'
                  obtain ⟨⟨dq, osq⟩, hw''⟩ := hw'
                  subst hw''
                  go_wp2_with fail
                  go_ret
                  exact ⟨by rw [HC.out, HDB.out, HRB.out]; rfl, HB.out.trans ((below_regrown _ dq osq).mono HB.out.size)⟩
                · have z1 : decide (imm ≤ hi) = true := by simp; omega
                  have hr2 : restB k n 0 imm = true := by rw [HR.out]; rw [x1, z1]; simp [*]
                  have HRB := Lib.hid hr2
                  clear hr2
                  go_wp2_with fail
                  refine wp_region_quiet_below (by kernel_rfl) (by kernel_rfl) ?_
                  repeat (go_big_quiet_step ((first | (go_at_call_of 53 (Value.int .u8 110); exact Calls.regrown_of (Q110.out _)) | (go_at_call_of 53 (Value.int .u8 109); exact Calls.regrown_of (Q109.out _)) | (go_at_call 36; exact Calls.regrown_of (HL.out _)) | (go_at_call 37; exact Calls.regrown_of (HH.out _)))))
                  refine wpQuiet_nil ?_
                  intro _ hw'
                  obtain ⟨⟨dq, osq⟩, hw''⟩ := hw'
                  subst hw''
                  go_wp2_with fail
                  go_ret
                  exact ⟨by rw [HC.out, HDB.out, HRB.out]; rfl, HB.out.trans ((below_regrown _ dq osq).mono HB.out.size)⟩
            · have e1 : (m == 0) = false := by simp [m0]
              have M0 : Hid (¬ m = 0) := Lib.hid m0
              clear m0
              cases f109
              · have hr2 : restB k n m imm = false := by rw [HR.out]; simp [M0.out]
                have HRB := Lib.hid hr2
                clear hr2
                go_wp2_with fail
                refine wp_region_quiet_below (by kernel_rfl) (by kernel_rfl) ?_
                repeat (go_big_quiet_step ((first | (go_at_call_of 53 (Value.int .u8 110); exact Calls.regrown_of (Q110.out _)) | (go_at_call_of 53 (Value.int .u8 109); exact Calls.regrown_of (Q109.out _)) | (go_at_call 36; exact Calls.regrown_of (HL.out _)) | (go_at_call 37; exact Calls.regrown_of (HH.out _)))))
                refine wpQuiet_nil ?_
                intro _ hw'
                obtain ⟨⟨dq, osq⟩, hw''⟩ := hw'
                subst hw''
                go_wp2_with fail
                go_ret
                exact ⟨by rw [HC.out, HDB.out, HRB.out]; rfl, HB.out.trans ((below_regrown _ dq osq).mono HB.out.size)⟩
              · by_cases l0 : m < 0
                · have y0 : decide (0 ≤ m) = false := by simp; omega
                  have hr2 : restB k n m imm = false := by rw [HR.out]; rw [y0]; simp
                  have HRB := Lib.hid hr2
                  clear hr2
                  go_wp2_with fail
                  refine wp_region_quiet_below (by kernel_rfl) (by kernel_rfl) ?_
                  repeat (go_big_quiet_step ((first | (go_at_call_of 53 (Value.int .u8 110); exact Calls.regrown_of (Q110.out _)) | (go_at_call_of 53 (Value.int .u8 109); exact Calls.regrown_of (Q109.out _)) | (go_at_call 36; exact Calls.regrown_of (HL.out _)) | (go_at_call 37; exact Calls.regrown_of (HH.out _)))))
                  refine wpQuiet_nil ?_
                  intro _ hw'
                  obtain ⟨⟨dq, osq⟩, hw''⟩ := hw'
                  subst hw''
                  go_wp2_with fail
                  go_ret
                  exact ⟨by rw [HC.out, HDB.out, HRB.out]; rfl, HB.out.trans ((below_regrown _ dq osq).mono HB.out.size)⟩
                · have y0 : decide (0 ≤ m) = true := by simp; omega
                  by_cases l7 : 7 < m
                  · have y7 : decide (m ≤ 7) = false := by simp; omega
                    have hr2 : restB k n m imm = false := by rw [HR.out]; rw [y7]; simp
                    have HRB := Lib.hid hr2
                    clear hr2
                    go_wp2_with fail
                    refine wp_region_quiet_below (by kernel_rfl) (by kernel_rfl) ?_
                    repeat (go_big_quiet_step ((first | (go_at_call_of 53 (Value.int .u8 110); exact Calls.regrown_of (Q110.out _)) | (go_at_call_of 53 (Value.int .u8 109); exact Calls.regrown_of (Q109.out _)) | (go_at_call 36; exact Calls.regrown_of (HL.out _)) | (go_at_call 37; exact Calls.regrown_of (HH.out _)))))
                    refine wpQuiet_nil ?_
                    intro _ hw'
                    obtain ⟨⟨dq, osq⟩, hw''⟩ := hw'
                    subst hw''
                    go_wp2_with fail
                    go_ret
                    exact ⟨by rw [HC.out, HDB.out, HRB.out]; rfl, HB.out.trans ((below_regrown _ dq osq).mono HB.out.size)⟩
                  · have y7 : decide (m ≤ 7) = true := by simp; omega
                    by_cases i0 : imm < lo
                    · have x1 : decide (lo ≤ imm) = false := by simp; omega
                      have hr2 : restB k n m imm = false := by rw [HR.out]; rw [x1]; simp
                      have HRB := Lib.hid hr2
                      clear hr2
                      go_wp2_with fail
                      refine wp_region_quiet_below (by kernel_rfl) (by kernel_rfl) ?_
                      repeat (go_big_quiet_step ((first | (go_at_call_of 53 (Value.int .u8 110); exact Calls.regrown_of (Q110.out _)) | (go_at_call_of 53 (Value.int .u8 109); exact Calls.regrown_of (Q109.out _)) | (go_at_call 36; exact Calls.regrown_of (HL.out _)) | (go_at_call 37; exact Calls.regrown_of (HH.out _)))))
                      refine wpQuiet_nil ?_
                      intro _ hw'
                      obtain ⟨⟨dq, osq⟩, hw''⟩ := hw'
                      subst hw''
                      go_wp2_with fail
                      go_ret
                      exact ⟨by rw [HC.out, HDB.out, HRB.out]; rfl, HB.out.trans ((below_regrown _ dq osq).mono HB.out.size)⟩
                    · have x1 : decide (lo ≤ imm) = true := by simp; omega
                      by_cases i1 : hi < imm
                      · have z1 : decide (imm ≤ hi) = false := by simp; omega
                        have hr2 : restB k n m imm = false := by rw [HR.out]; rw [z1]; simp
                        have HRB := Lib.hid hr2
                        clear hr2
                        go_wp2_with fail
                        refine wp_region_quiet_below (by kernel_rfl) (by kernel_rfl) ?_
                        repeat (go_big_quiet_step ((first | (go_at_call_of 53 (Value.int .u8 110); exact Calls.regrown_of (Q110.out _)) | (go_at_call_of 53 (Value.int .u8 109); exact Calls.regrown_of (Q109.out _)) | (go_at_call 36; exact Calls.regrown_of (HL.out _)) | (go_at_call 37; exact Calls.regrown_of (HH.out _)))))
                        refine wpQuiet_nil ?_
                        intro _ hw'
                        obtain ⟨⟨dq, osq⟩, hw''⟩ := hw'
                        subst hw''
                        go_wp2_with fail
                        go_ret
                        exact ⟨by rw [HC.out, HDB.out, HRB.out]; rfl, HB.out.trans ((below_regrown _ dq osq).mono HB.out.size)⟩
                      · have z1 : decide (imm ≤ hi) = true := by simp; omega
                        have hr2 : restB k n m imm = true := by rw [HR.out]; rw [x1, z1]; simp [*]
                        have HRB := Lib.hid hr2
                        clear hr2
                        go_wp2_with fail
                        refine wp_region_quiet_below (by kernel_rfl) (by kernel_rfl) ?_
                        repeat (go_big_quiet_step ((first | (go_at_call_of 53 (Value.int .u8 110); exact Calls.regrown_of (Q110.out _)) | (go_at_call_of 53 (Value.int .u8 109); exact Calls.regrown_of (Q109.out _)) | (go_at_call 36; exact Calls.regrown_of (HL.out _)) | (go_at_call 37; exact Calls.regrown_of (HH.out _)))))
                        refine wpQuiet_nil ?_
                        intro _ hw'
                        obtain ⟨⟨dq, osq⟩, hw''⟩ := hw'
                        subst hw''
                        go_wp2_with fail
                        go_ret
                        exact ⟨by rw [HC.out, HDB.out, HRB.out]; rfl, HB.out.trans ((below_regrown _ dq osq).mono HB.out.size)⟩
end Go.Proofs.YtkafmpdjpjgkgaaDoor.ThRef
/- DERIVED. The contract of the reference's Writes. By an AI agent. -/
namespace Go.Proofs.YtkafmpdjpjgkgaaDoor.ThRef
open Go.ChangeShapes Go.WideShapes Go.ChangeAt Go.RowKit Go.Sort
set_option linter.unusedVariables false
/-- Whether an Op sets its register D. -/
def setsB (op imm : Int) : Bool := !(decide (op = 1) || decide (op = 13) || decide (op = 15) || decide (16 < op) || (decide (op = 11) && (decide (imm = 8) || decide (imm = 10) || decide (imm = 11))))
def wrV (op d n m imm : Int) : Value := if canB op d n m imm && setsB op imm then .tuple #[.int .i64 d, .bool true] else .tuple #[.int .i64 0, .bool false]
theorem can_op (op d n m imm : Int) (h : canB op d n m imm = true) : 0 ≤ op ∧ op ≤ 20 := by
  unfold canB at h
  simp at h
  exact ⟨h.1.1.1, h.1.1.2⟩
set_option maxHeartbeats 4000000 in
theorem writes (op d n m imm : Int) (w : World) : Calls Tryd.prog 33 #[ins op d n m imm] w fun e w' => e = .returned (wrV op d n m imm) ∧ Below w.heap.size w w' := by
  have hc := can op d n m imm
  have ho := can_op op d n m imm
  have hv : wrV op d n m imm = _ := rfl
  conv at hv => rhs; unfold wrV
  generalize canB op d n m imm = cb at hc ho hv
  have HC := Lib.hid hc; have HV := Lib.hid hv
  clear hc hv
  cases cb
  · clear ho
    go_enter Tryd.func33, Tryd.ntmps33
    go_wp2_with fail
    refine (HC.out _).mono ?_; rintro e w1 ⟨rfl, hb1⟩
    go_wp2_with fail
    go_ret2
    exact ⟨by rw [HV.out]; rfl, ((Below.refl _ _).alloc (Nat.le_refl _) _).trans (hb1.mono (by simp))⟩
  · have ho' := ho rfl
    clear ho
    by_cases h11 : op = 11
    · subst h11
      clear ho'
      by_cases i8 : imm = 8
      · subst i8
        go_enter Tryd.func33, Tryd.ntmps33
        go_wp2_with fail
        refine (HC.out _).mono ?_; rintro e w1 ⟨rfl, hb1⟩
        have hcc : ∀ j, w1.cell? ⟨w.heap.size, j, none⟩ = (w.alloc (.cells #[.int .i64 11, .int .i64 d, .int .i64 n, .int .i64 m, .int .i64 8] 58)).cell? ⟨w.heap.size, j, none⟩ := fun j => hb1.cell (p := ⟨_, _, _⟩) (by simp)
        have q1 : w1.cell? ⟨w.heap.size, 1, none⟩ = some (.int .i64 d) := by rw [hcc 1, World.cell?_alloc_at _ _ _ _ rfl]; rfl
        have q4 : w1.cell? ⟨w.heap.size, 4, none⟩ = some (.int .i64 8) := by rw [hcc 4, World.cell?_alloc_at _ _ _ _ rfl]; rfl
        clear hcc
        go_wp2_with fail
        go_ret2
        exact ⟨by rw [HV.out]; rfl, ((Below.refl _ _).alloc (Nat.le_refl _) _).trans (hb1.mono (by simp))⟩
      by_cases i10 : imm = 10
      · subst i10
        go_enter Tryd.func33, Tryd.ntmps33
        go_wp2_with fail
        refine (HC.out _).mono ?_; rintro e w1 ⟨rfl, hb1⟩
        have hcc : ∀ j, w1.cell? ⟨w.heap.size, j, none⟩ = (w.alloc (.cells #[.int .i64 11, .int .i64 d, .int .i64 n, .int .i64 m, .int .i64 10] 58)).cell? ⟨w.heap.size, j, none⟩ := fun j => hb1.cell (p := ⟨_, _, _⟩) (by simp)
        have q1 : w1.cell? ⟨w.heap.size, 1, none⟩ = some (.int .i64 d) := by rw [hcc 1, World.cell?_alloc_at _ _ _ _ rfl]; rfl
        have q4 : w1.cell? ⟨w.heap.size, 4, none⟩ = some (.int .i64 10) := by rw [hcc 4, World.cell?_alloc_at _ _ _ _ rfl]; rfl
        clear hcc
        go_wp2_with fail
        go_ret2
        exact ⟨by rw [HV.out]; rfl, ((Below.refl _ _).alloc (Nat.le_refl _) _).trans (hb1.mono (by simp))⟩
      by_cases i11 : imm = 11
      · subst i11
        go_enter Tryd.func33, Tryd.ntmps33
        go_wp2_with fail
        refine (HC.out _).mono ?_; rintro e w1 ⟨rfl, hb1⟩
        have hcc : ∀ j, w1.cell? ⟨w.heap.size, j, none⟩ = (w.alloc (.cells #[.int .i64 11, .int .i64 d, .int .i64 n, .int .i64 m, .int .i64 11] 58)).cell? ⟨w.heap.size, j, none⟩ := fun j => hb1.cell (p := ⟨_, _, _⟩) (by simp)
        have q1 : w1.cell? ⟨w.heap.size, 1, none⟩ = some (.int .i64 d) := by rw [hcc 1, World.cell?_alloc_at _ _ _ _ rfl]; rfl
        have q4 : w1.cell? ⟨w.heap.size, 4, none⟩ = some (.int .i64 11) := by rw [hcc 4, World.cell?_alloc_at _ _ _ _ rfl]; rfl
        clear hcc
        go_wp2_with fail
        go_ret2
        exact ⟨by rw [HV.out]; rfl, ((Below.refl _ _).alloc (Nat.le_refl _) _).trans (hb1.mono (by simp))⟩
      have e8 : (imm == 8) = false := by simp [i8]
      have e10 : (imm == 10) = false := by simp [i10]
      have e11 : (imm == 11) = false := by simp [i11]
      have hs : setsB 11 imm = true := by simp [setsB, i8, i10, i11]
      have HS := Lib.hid hs
      clear i8 i10 i11 hs
      go_enter Tryd.func33, Tryd.ntmps33
      go_wp2_with fail
      refine (HC.out _).mono ?_; rintro e w1 ⟨rfl, hb1⟩
      have hcc : ∀ j, w1.cell? ⟨w.heap.size, j, none⟩ = (w.alloc (.cells #[.int .i64 11, .int .i64 d, .int .i64 n, .int .i64 m, .int .i64 imm] 58)).cell? ⟨w.heap.size, j, none⟩ := fun j => hb1.cell (p := ⟨_, _, _⟩) (by simp)
      have q1 : w1.cell? ⟨w.heap.size, 1, none⟩ = some (.int .i64 d) := by rw [hcc 1, World.cell?_alloc_at _ _ _ _ rfl]; rfl
      have q4 : w1.cell? ⟨w.heap.size, 4, none⟩ = some (.int .i64 imm) := by rw [hcc 4, World.cell?_alloc_at _ _ _ _ rfl]; rfl
      clear hcc
      go_wp2_with fail
      go_ret2
      exact ⟨by rw [HV.out]; rw [HS.out]; rfl, ((Below.refl _ _).alloc (Nat.le_refl _) _).trans (hb1.mono (by simp))⟩
    · have H11 : Hid (¬ op = 11) := Lib.hid h11
      clear h11
      have hr : op = 0 ∨ op = 1 ∨ op = 2 ∨ op = 3 ∨ op = 4 ∨ op = 5 ∨ op = 6 ∨ op = 7 ∨ op = 8 ∨ op = 9 ∨ op = 10 ∨ op = 11 ∨ op = 12 ∨ op = 13 ∨ op = 14 ∨ op = 15 ∨ op = 16 ∨ op = 17 ∨ op = 18 ∨ op = 19 ∨ op = 20 := by omega
      clear ho'
      rcases hr with rfl | rfl | rfl | rfl | rfl | rfl | rfl | rfl | rfl | rfl | rfl | rfl | rfl | rfl | rfl | rfl | rfl | rfl | rfl | rfl | rfl
      all_goals
        first
        | exact absurd rfl H11.out
        | (go_enter Tryd.func33, Tryd.ntmps33
           go_wp2_with fail
           refine (HC.out _).mono ?_; rintro e w1 ⟨rfl, hb1⟩
           have hcc : ∀ j, w1.cell? ⟨w.heap.size, j, none⟩ = (w.alloc (.cells #[.int .i64 _, .int .i64 d, .int .i64 n, .int .i64 m, .int .i64 imm] 58)).cell? ⟨w.heap.size, j, none⟩ := fun j => hb1.cell (p := ⟨_, _, _⟩) (by simp)
           have q1 : w1.cell? ⟨w.heap.size, 1, none⟩ = some (.int .i64 d) := by rw [hcc 1, World.cell?_alloc_at _ _ _ _ rfl]; rfl
           have q4 : w1.cell? ⟨w.heap.size, 4, none⟩ = some (.int .i64 imm) := by rw [hcc 4, World.cell?_alloc_at _ _ _ _ rfl]; rfl
           clear hcc
           go_wp2_with fail
           go_ret2
           exact ⟨by rw [HV.out]; rfl, ((Below.refl _ _).alloc (Nat.le_refl _) _).trans (hb1.mono (by simp))⟩)
end Go.Proofs.YtkafmpdjpjgkgaaDoor.ThRef
/- DERIVED. The contract of the program's Can. By an AI agent. -/
namespace Go.Proofs.YtkafmpdjpjgkgaaDoor.Tp
open Go.ChangeShapes Go.WideShapes Go.ChangeAt Go.RowKit Go.Sort ThRef
set_option linter.unusedVariables false
/-- An instruction's four numbers beside its Op. -/
structure Nums where
  d : Int
  n : Int
  m : Int
  i : Int
def Nums.get (s : Nums) (k : Nat) : Int := if k = 0 then s.d else if k = 1 then s.n else if k = 2 then s.m else s.i
def Nums.set (s : Nums) (k : Nat) (x : Int) : Nums := if k = 0 then { s with d := x } else if k = 1 then { s with n := x } else if k = 2 then { s with m := x } else { s with i := x }
/-- What Can does with the fields that are left. -/
def canT : List Nat → Nums → Bool
  | [], s => decide (s.d = 0) && decide (s.n = 0) && decide (s.m = 0) && decide (s.i = 0)
  | k :: l, s => decide ((fldN k).least ≤ s.get (fldN k).of) && decide (s.get (fldN k).of ≤ (fldN k).most) && canT l (s.set (fldN k).of 0)
abbrev insN (op : Nat) (s : Nums) : Value := ins op s.d s.n s.m s.i
/-- Block b holds an instruction. -/
def Holds (b k : Nat) (s : Nums) (w : World) : Prop := w.heap[b]? = some (.cells #[.int .i64 k, .int .i64 s.d, .int .i64 s.n, .int .i64 s.m, .int .i64 s.i] 58 (0, 0))
theorem Holds.lt {b k : Nat} {s : Nums} {w : World} (h : Holds b k s w) : b < w.heap.size := (Array.getElem?_eq_some_iff.1 h).1
theorem Holds.below {b k : Nat} {s : Nums} {w w' : World} (h : Holds b k s w) (hb : Below w.heap.size w w') : Holds b k s w' := by
  unfold Holds; rw [hb.block b h.lt]; exact h
theorem Holds.cell {b k : Nat} {s : Nums} {w : World} (h : Holds b k s w) (i : Nat) : w.cell? ⟨b, i, none⟩ = #[Value.int .i64 k, .int .i64 s.d, .int .i64 s.n, .int .i64 s.m, .int .i64 s.i][i]? := by
  unfold Holds at h
  simp [World.cell?, h]
theorem Holds.num {b k : Nat} {s : Nums} {w : World} (h : Holds b k s w) (o : Nat) : w.cell? ⟨b, 1 + min o 3, none⟩ = some (.int .i64 (s.get o)) := by
  rw [h.cell]
  unfold Nums.get
  by_cases h0 : o = 0
  · subst h0; rfl
  by_cases h1 : o = 1
  · subst h1; rfl
  by_cases h2 : o = 2
  · subst h2; rfl
  rw [show 1 + min o 3 = 4 by omega]
  simp [h0, h1, h2]
theorem Holds.free {b k : Nat} {s : Nums} {w : World} (h : Holds b k s w) (i : Nat) : w.frozen? ⟨b, i, none⟩ = false := by
  unfold Holds at h
  simp [World.frozen?, h]
theorem Holds.set {b k : Nat} {s : Nums} {w : World} (h : Holds b k s w) (o : Nat) (x : Int) : Holds b k (s.set o x) (w.setCell ⟨b, 1 + min o 3, none⟩ (.int .i64 x)) := by
  have hm : ∀ i v, (w.setCell ⟨b, i, none⟩ v).heap[b]? = some (.cells (#[Value.int .i64 k, .int .i64 s.d, .int .i64 s.n, .int .i64 s.m, .int .i64 s.i].setIfInBounds i v) 58 (0, 0)) := fun i v => by
    have hl := h.lt
    have h' : w.heap[b] = _ := Array.getElem_eq_iff.2 h
    unfold World.setCell
    rw [Array.getElem?_eq_getElem (by simpa using hl), Array.getElem_modify, if_pos rfl, h']
    rfl
  unfold Holds
  rw [hm]
  unfold Nums.set
  by_cases h0 : o = 0
  · subst h0; rfl
  by_cases h1 : o = 1
  · subst h1; rfl
  by_cases h2 : o = 2
  · subst h2; rfl
  rw [show 1 + min o 3 = 4 by omega]
  simp [h0, h1, h2]
theorem has_lt (k : Nat) (hk : k < 21) (j x : Nat) (h : (shpN k).has[j]? = some x) : x < 13 := by
  have : ∀ i : Fin 21, (shpN i.val).has.all (fun x => x < 13) = true := by decide +kernel
  have h2 := List.all_eq_true.1 (this ⟨k, hk⟩) x (List.mem_of_getElem? h)
  simpa using h2
theorem holds_new (w : World) (k : Nat) (s : Nums) : Holds w.heap.size k s (w.alloc (.cells #[.int .i64 k, .int .i64 s.d, .int .i64 s.n, .int .i64 s.m, .int .i64 s.i] 58)) := by
  unfold Holds
  exact heap_alloc_new _ _
set_option maxRecDepth 100000 in
set_option maxHeartbeats 4000000 in
theorem can_body (k : Nat) (hk : k < 21) (s0 : Nums) (w : World) (hT : Tb w) : Calls Tryd.prog 67 #[insN k s0] w fun e w' => e = .returned (.bool (canT (shpN k).has s0)) ∧ Below w.heap.size w w' := by
  have s2 := hT.s2 k hk
  obtain ⟨a, cap, hs, hrow⟩ := s2
  have gs := hT.gs; have gf := hT.gf
  have hlt := has_lt k hk
  have hlen : (shpN k).has.length ≤ 3 := by
    have : ∀ i : Fin 21, (shpN i.val).has.length ≤ 3 := by decide +kernel
    exact this ⟨k, hk⟩
  generalize (shpN k).has = L at *
  have HT := Lib.hid hT; have HR := Lib.hid hrow; have HLT := Lib.hid hlt
  clear hT hrow hlt
  go_enter Tryd.func67, Tryd.ntmps67
  go_wp2
  go_loopw [21] (fun vi wr => ∃ (j : Nat) (s : Nums), j ≤ L.length ∧ vi = .int .i64 j ∧ Hid (Holds w.heap.size k s wr ∧ Below w.heap.size w wr ∧ canT (L.drop j) s = canT L s0)) (fun vi _ => L.length - (intOf vi).toNat)
  case atStart => exact ⟨0, s0, by omega, rfl, Lib.hid ⟨holds_new w k s0, (Below.refl _ _).alloc (Nat.le_refl _) _, rfl⟩⟩
  case round =>
    obtain ⟨j, s, hj, rfl, HH⟩ := hrel
    by_cases hlt : j < L.length
    · have hx : L[j]? = some (L[j]'hlt) := List.getElem?_eq_getElem hlt
      have hx13 := HLT.out j _ hx
      have hcell := HR.out j _ hx
      have hblk := World.block_lt_of_cell? w _ hcell
      have hcell2 : wr.cell? (a.add j) = _ := (HH.out.2.1.cell hblk).trans hcell
      have hblk2 := World.block_lt_of_cell? wr _ hcell2
      have hdrop := List.drop_eq_getElem_cons hlt
      generalize L[j]'hlt = x at hx hx13 hcell hcell2 hdrop
      have hTr := HT.out.below HH.out.2.1
      have f0 := hTr.f0 x hx13; have f1 := hTr.f1 x hx13; have f2 := hTr.f2 x hx13; have f3 := hTr.f3 x hx13; have f4 := hTr.f4 x hx13
      have gf2 := hTr.gf
      have HD := Lib.hid hdrop
      clear hcell hblk hx hdrop hTr
      go_wp2_with fail
      refine (number (fldN x) w.heap.size _).mono ?_
      rintro e w1 ⟨rfl, hb1⟩
      have hbw : Below wr.heap.size wr w1 := ((Below.refl _ _).alloc (Nat.le_refl _) _).trans (hb1.mono (by simp))
      have hH1 := HH.out.1.below hbw
      have hv := hH1.num (fldN x).of
      have hfr := hH1.free (1 + min (fldN x).of 3)
      have hset : ∀ nq, Holds w.heap.size k (s.set (fldN x).of 0) ((w1.drewN nq).setCell ⟨w.heap.size, 1 + min (fldN x).of 3, none⟩ (.int .i64 0)) := fun nq => Holds.set (w := w1.drewN nq) hH1 (fldN x).of 0
      have hz1 := hb1.size
      simp at hz1
      have hcc : ∀ i, w1.cell? ⟨wr.heap.size, i, none⟩ = _ := fun i => (hb1.cell (p := ⟨wr.heap.size, i, none⟩) (by simp)).trans (World.cell?_alloc_at _ _ _ _ rfl)
      have g3 : w1.cell? ⟨wr.heap.size, 3, none⟩ = some (.int .i64 (fldN x).least) := hcc 3
      have g4 : w1.cell? ⟨wr.heap.size, 4, none⟩ = some (.int .i64 (fldN x).most) := hcc 4
      have hct : canT (L.drop j) s = (decide ((fldN x).least ≤ s.get (fldN x).of) && decide (s.get (fldN x).of ≤ (fldN x).most) && canT (L.drop (j + 1)) (s.set (fldN x).of 0)) := by rw [HD.out, canT]
      rw [HH.out.2.2] at hct
      have HB := Lib.hid (HH.out.2.1.trans (hbw.mono HH.out.2.1.size))
      have HS := Lib.hid hset
      generalize hnx : s.set (fldN x).of 0 = s' at hset hct HS
      generalize s.get (fldN x).of = v at hv hct
      generalize 1 + min (fldN x).of 3 = o at *
      have HCT := Lib.hid hct
      clear f0 f1 f2 f3 f4 hcc hb1 hbw hH1 hset hnx hct hcell2 hblk2 gf2 hs gs gf
      by_cases c1 : v < (fldN x).least
      · have d1 : decide (v < (fldN x).least) = true := by simpa using c1
        have hfin : canT L s0 = false := by rw [HCT.out, decide_eq_false (by omega)]; rfl
        have HF := Lib.hid hfin
        clear c1 hfin
        go_wp2_with fail
        go_quiet (fail)
        go_wp2_with fail
        go_ret
        exact ⟨by rw [HF.out]; rfl, below_drewN HB.out _⟩
      · have d1 : decide (v < (fldN x).least) = false := by simpa using c1
        by_cases c2 : (fldN x).most < v
        · have d2 : decide ((fldN x).most < v) = true := by simpa using c2
          have hfin : canT L s0 = false := by rw [HCT.out, decide_eq_false (show ¬ v ≤ (fldN x).most by omega)]; simp
          have HF := Lib.hid hfin
          clear c1 c2 hfin
          go_wp2_with fail
          go_quiet (fail)
          go_wp2_with fail
          go_ret
          exact ⟨by rw [HF.out]; rfl, below_drewN HB.out _⟩
        · have d2 : decide ((fldN x).most < v) = false := by simpa using c2
          have hgo : canT (L.drop (j + 1)) s' = canT L s0 := by rw [HCT.out, decide_eq_true (show v ≤ (fldN x).most by omega), decide_eq_true (show (fldN x).least ≤ v by omega)]; rfl
          have HG := Lib.hid hgo
          clear c1 c2 hgo
          go_wp2_with fail
          go_quiet (fail)
          go_wp2_with fail
          go_roundw
          case rel =>
            refine ⟨j + 1, s', by omega, by go_num, Lib.hid ⟨?_, ?_, HG.out⟩⟩
            · exact HS.out nq
            · exact (below_drewN HB.out nq).setCell (by simp) _
          case measure => simp [intOf]; omega
    · have hjl : L.drop j = [] := List.drop_eq_nil_of_le (by omega)
      have hfin : canT L s0 = (decide (s.d = 0) && decide (s.n = 0) && decide (s.m = 0) && decide (s.i = 0)) := by rw [← HH.out.2.2, hjl, canT]
      have q0 := HH.out.1.cell 0
      have q1 := HH.out.1.cell 1
      have q2 := HH.out.1.cell 2
      have q3 := HH.out.1.cell 3
      have q4 := HH.out.1.cell 4
      have HF := Lib.hid hfin
      clear hfin hjl
      go_wp2_with fail
      all_goals
        go_ret
        refine ⟨?_, HH.out.2.1⟩
        rw [HF.out]
        clear HF HH HLT HR HT hs
        simp [*]
end Go.Proofs.YtkafmpdjpjgkgaaDoor.Tp
/- DERIVED. The program's Can answers as the reference's, whatever the numbers. By an AI agent. -/
namespace Go.Proofs.YtkafmpdjpjgkgaaDoor.Tp
open Go.ChangeShapes Go.WideShapes Go.ChangeAt Go.RowKit Go.Sort ThRef
set_option linter.unusedVariables false
set_option maxHeartbeats 4000000 in
theorem canT_canB (k : Nat) (hk : k < 21) (d n m imm : Int) : canT (shpN k).has ⟨d, n, m, imm⟩ = canB k d n m imm := by
  have hr : k = 0 ∨ k = 1 ∨ k = 2 ∨ k = 3 ∨ k = 4 ∨ k = 5 ∨ k = 6 ∨ k = 7 ∨ k = 8 ∨ k = 9 ∨ k = 10 ∨ k = 11 ∨ k = 12 ∨ k = 13 ∨ k = 14 ∨ k = 15 ∨ k = 16 ∨ k = 17 ∨ k = 18 ∨ k = 19 ∨ k = 20 := by omega
  clear hk
  rcases hr with rfl | rfl | rfl | rfl | rfl | rfl | rfl | rfl | rfl | rfl | rfl | rfl | rfl | rfl | rfl | rfl | rfl | rfl | rfl | rfl | rfl
  all_goals
    rw [Bool.eq_iff_iff]
    simp [canT, canB, dB, restB, shpN, shps, fldN, flds, Nums.get, Nums.set, lowN, lows, highN, highs, hasB, shapeN, shapes]
    try omega
set_option maxHeartbeats 4000000 in
theorem can (op d n m imm : Int) (w : World) (hT : Tb w) : Calls Tryd.prog 67 #[ins op d n m imm] w fun e w' => e = .returned (.bool (canB op d n m imm)) ∧ Below w.heap.size w w' := by
  by_cases h0 : op < 0
  · have hfin : canB op d n m imm = false := by unfold canB; rw [decide_eq_false (by omega)]; rfl
    have HF := Lib.hid hfin
    clear hfin hT
    go_enter Tryd.func67, Tryd.ntmps67
    go_wp2
    go_ret
    exact ⟨by rw [HF.out]; rfl, (Below.refl _ _).alloc (Nat.le_refl _) _⟩
  by_cases h20 : 20 < op
  · have hfin : canB op d n m imm = false := by unfold canB; rw [decide_eq_false (show ¬ op ≤ 20 by omega)]; simp
    have HF := Lib.hid hfin
    clear hfin hT
    go_enter Tryd.func67, Tryd.ntmps67
    go_wp2
    go_ret
    exact ⟨by rw [HF.out]; rfl, (Below.refl _ _).alloc (Nat.le_refl _) _⟩
  obtain ⟨k, rfl⟩ := Int.eq_ofNat_of_zero_le (by omega : 0 ≤ op)
  have hk : k < 21 := by omega
  rw [← canT_canB k hk]
  exact can_body k hk ⟨d, n, m, imm⟩ w hT
end Go.Proofs.YtkafmpdjpjgkgaaDoor.Tp
