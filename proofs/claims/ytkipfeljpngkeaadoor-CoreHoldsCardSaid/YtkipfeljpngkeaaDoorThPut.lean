/- DERIVED. The contract of the reference's Put. By an AI agent. -/
import Derived.Test.YtkipfeljpngkeaaDoorThWrites
namespace Go.Proofs.YtkipfeljpngkeaaDoor.ThRef
open Go.ChangeShapes Go.WideShapes Go.ChangeAt Go.RowKit Go.Sort
set_option linter.unusedVariables false
/-- What one letter of a shape does: the bit, and what is left of the fields. -/
def stp (c D N M I : Nat) : Nat × Nat × Nat × Nat × Nat :=
  if c = 49 then (1, D, N, M, I) else if c = 100 ∨ c = 99 then (D % 2, D / 2, N, M, I) else if c = 110 then (N % 2, D, N / 2, M, I) else if c = 109 then (M % 2, D, N, M / 2, I)
  else if c = 105 then (I % 2, D, N, M, I / 2) else (0, D, N, M, I)
def putF : List Nat → Nat → Nat → Nat → Nat → Nat → Nat
  | [], _, _, _, _, _ => 0
  | c :: l, p, D, N, M, I => (stp c D N M I).1 * p + putF l (2 * p) (stp c D N M I).2.1 (stp c D N M I).2.2.1 (stp c D N M I).2.2.2.1 (stp c D N M I).2.2.2.2
/-- The letters that are left, the lowest first. -/
def lets (s : ByteArray) (K : Nat) : List Nat := ((s.data.toList.take K).reverse).map UInt8.toNat
theorem lets_succ (s : ByteArray) (m : Nat) (h : m < s.size) : lets s (m + 1) = (s[m]'h).toNat :: lets s m := by
  unfold lets
  rw [List.take_succ_eq_append_getElem (by simpa using h)]
  simp
  rfl
def putR (k : Nat) (D N M I : Nat) : Nat := putF (lets (shapeN k) 16) 1 D N M I
/-- The halfword of an instruction and the error. -/
def putV (op d n m imm : Int) : Value :=
  if canB op d n m imm then .tuple #[.int .u16 ((putR op.toNat d.toNat n.toNat m.toNat (if imm < 0 then imm + 2048 else imm).toNat : Nat) : Int), .int .i64 0] else .tuple #[.int .u16 0, .int .i64 1]
theorem pow_le (m : Nat) (h : m ≤ 15) : 2 ^ m ≤ 32768 := Nat.le_trans (Nat.pow_le_pow_right (by decide) h) (by decide)
theorem stp_le (c D N M I : Nat) : (stp c D N M I).1 ≤ 1 := by
  unfold stp
  split
  · simp
  · split
    · simp; omega
    · split
      · simp; omega
      · split
        · simp; omega
        · split
          · simp; omega
          · simp
theorem put_step (S : ByteArray) (r c H D N M I b D' N' M' I' B T : Nat) (hr : r ≤ 15) (hl : lets S (r + 1) = c :: lets S r) (hs : stp c D N M I = (b, D', N', M', I'))
    (h : H < 2 ^ (16 - (r + 1)) ∧ H + putF (lets S (r + 1)) (2 ^ (16 - (r + 1))) D N M I = T) (hB : B = b * 2 ^ (15 - r)) :
    H + B < 2 ^ (16 - r) ∧ H + B + putF (lets S r) (2 ^ (16 - r)) D' N' M' I' = T := by
  have hb := stp_le c D N M I
  rw [hs] at hb
  have hb1 : b ≤ 1 := hb
  rw [show 16 - (r + 1) = 15 - r by omega] at h
  obtain ⟨h1, h2⟩ := h
  rw [hl, putF, hs] at h2
  have e : 2 ^ (16 - r) = 2 * 2 ^ (15 - r) := by rw [show 16 - r = (15 - r) + 1 by omega, Nat.pow_succ, Nat.mul_comm]
  rw [e]
  generalize 2 ^ (15 - r) = q at *
  have hBq : B ≤ q := by rw [hB]; exact Nat.le_trans (Nat.mul_le_mul_right q hb1) (by omega)
  refine ⟨by omega, ?_⟩
  simp only at h2
  rw [← h2, hB]
  omega
theorem dbl (b r J B : Nat) (hJ : r ≤ J) (h : B = b * 2 ^ (J - r)) : B * 2 = b * 2 ^ (J + 1 - r) := by
  rw [h, show J + 1 - r = (J - r) + 1 by omega, Nat.pow_succ, Nat.mul_assoc]
theorem dbl_le (b r J B : Nat) (hb : b ≤ 1) (hJ : J ≤ 15) (h : B = b * 2 ^ (J - r)) : B ≤ 32768 := by
  rw [h]
  exact Nat.le_trans (Nat.mul_le_mul hb (pow_le (J - r) (by omega))) (by omega)
theorem can_bounds (op d n m imm : Int) (h : canB op d n m imm = true) : (0 ≤ d ∧ d ≤ 13) ∧ (0 ≤ n ∧ n ≤ 7) ∧ (0 ≤ m ∧ m ≤ 7) ∧ (-1024 ≤ imm ∧ imm ≤ 1023) := by
  have ho := can_op op d n m imm h
  obtain ⟨k, rfl⟩ := Int.eq_ofNat_of_zero_le ho.1
  have hk : k < 21 := by omega
  have hl : ∀ i : Fin 21, -1024 ≤ lowN i.val ∧ highN i.val ≤ 1023 := by decide
  have hlk := hl ⟨k, hk⟩
  unfold canB dB restB at h
  simp only [Int.toNat_natCast, Bool.and_eq_true, decide_eq_true_eq] at h
  obtain ⟨⟨⟨_, _⟩, hd⟩, ⟨⟨⟨⟨⟨⟨⟨_, h1⟩, h2⟩, _⟩, h3⟩, h4⟩, h5⟩, h6⟩⟩ := h
  refine ⟨?_, ⟨h1, h2⟩, ⟨h3, h4⟩, by simp only at hlk; omega, by simp only at hlk; omega⟩
  split at hd
  · simp at hd; exact hd
  · simp at hd; omega
set_option maxHeartbeats 40000000 in
theorem put (op d n m imm : Int) (w : World) : Calls Tryd.prog 8 #[ins op d n m imm] w fun e w' => e = .returned (putV op d n m imm) ∧ Below w.heap.size w w' := by
  have hc := can op d n m imm
  have ho := can_op op d n m imm
  have hbd := can_bounds op d n m imm
  have hv : putV op d n m imm = _ := rfl
  conv at hv => rhs; unfold putV
  generalize canB op d n m imm = cb at hc ho hv hbd
  have HC := Lib.hid hc; have HV := Lib.hid hv
  clear hc hv
  cases cb
  · clear ho hbd
    go_enter Tryd.func8, Tryd.ntmps8
    go_wp2_with fail
    refine (HC.out _).mono ?_; rintro e w1 ⟨rfl, hb1⟩
    go_wp2_with fail
    go_ret2
    exact ⟨by rw [HV.out]; rfl, ((Below.refl _ _).alloc (Nat.le_refl _) _).trans (hb1.mono (by simp))⟩
  · have ho' := ho rfl
    obtain ⟨⟨d0, d1⟩, ⟨n0, n1⟩, ⟨m0, m1⟩, i0, i1⟩ := hbd rfl
    clear ho hbd
    obtain ⟨k, rfl⟩ := Int.eq_ofNat_of_zero_le ho'.1
    obtain ⟨D0, rfl⟩ := Int.eq_ofNat_of_zero_le d0
    obtain ⟨N0, rfl⟩ := Int.eq_ofNat_of_zero_le n0
    obtain ⟨M0, rfl⟩ := Int.eq_ofNat_of_zero_le m0
    have hk : k < 21 := by omega
    have hsh := shape k hk
    have hsz := shape_size k hk
    have hpr : putR k D0 N0 M0 (if imm < 0 then imm + 2048 else imm).toNat = _ := rfl
    conv at hpr => rhs; unfold putR
    generalize shapeN k = S at hsh hsz hpr
    have HSH := Lib.hid hsh; have HPR := Lib.hid hpr
    clear hsh hpr ho'
    go_enter Tryd.func8, Tryd.ntmps8
    go_wp2_with fail
    refine (HC.out _).mono ?_; rintro e w1 ⟨rfl, hb1⟩
    have hcc : ∀ j, w1.cell? ⟨w.heap.size, j, none⟩ = (w.alloc (.cells #[.int .i64 k, .int .i64 D0, .int .i64 N0, .int .i64 M0, .int .i64 imm] 23)).cell? ⟨w.heap.size, j, none⟩ := fun j => hb1.cell (p := ⟨_, _, _⟩) (by simp)
    have q0 : w1.cell? ⟨w.heap.size, 0, none⟩ = some (.int .i64 k) := by rw [hcc 0, World.cell?_alloc_at _ _ _ _ rfl]; rfl
    have q1 : w1.cell? ⟨w.heap.size, 1, none⟩ = some (.int .i64 D0) := by rw [hcc 1, World.cell?_alloc_at _ _ _ _ rfl]; rfl
    have q2 : w1.cell? ⟨w.heap.size, 2, none⟩ = some (.int .i64 N0) := by rw [hcc 2, World.cell?_alloc_at _ _ _ _ rfl]; rfl
    have q3 : w1.cell? ⟨w.heap.size, 3, none⟩ = some (.int .i64 M0) := by rw [hcc 3, World.cell?_alloc_at _ _ _ _ rfl]; rfl
    have q4 : w1.cell? ⟨w.heap.size, 4, none⟩ = some (.int .i64 imm) := by rw [hcc 4, World.cell?_alloc_at _ _ _ _ rfl]; rfl
    have hbw : Below w.heap.size w w1 := ((Below.refl _ _).alloc (Nat.le_refl _) _).trans (hb1.mono (by simp))
    have hz := hb1.size
    simp at hz
    have hz2 : w.heap.size < w1.heap.size := hz
    have HB := Lib.hid hbw
    clear hcc hb1 hbw hz
    go_wp2_with fail
    refine (HSH.out _).mono ?_; rintro e w2 ⟨rfl, hb2⟩
    have p1 : w2.cell? ⟨w.heap.size, 1, none⟩ = _ := (hb2.cell (p := ⟨_, _, _⟩) hz2).trans q1
    have p2 : w2.cell? ⟨w.heap.size, 2, none⟩ = _ := (hb2.cell (p := ⟨_, _, _⟩) hz2).trans q2
    have p3 : w2.cell? ⟨w.heap.size, 3, none⟩ = _ := (hb2.cell (p := ⟨_, _, _⟩) hz2).trans q3
    have p4 : w2.cell? ⟨w.heap.size, 4, none⟩ = _ := (hb2.cell (p := ⟨_, _, _⟩) hz2).trans q4
    have HB2 := Lib.hid (HB.out.trans (hb2.mono HB.out.size))
    clear q0 q1 q2 q3 q4 hb2 hz2
    go_wp2_with fail
    go_quiet (fail)
    have hI : ∃ I0 : Nat, (if imm < 0 then imm + 2048 else imm) = (I0 : Int) ∧ I0 < 4096 := ⟨(if imm < 0 then imm + 2048 else imm).toNat, by split <;> omega, by split <;> omega⟩
    obtain ⟨I0, hI0, hI1⟩ := hI
    have hpr := HPR.out
    have hv := HV.out
    rw [hI0] at hpr hv
    simp only [Int.toNat_natCast] at hpr hv
    have HPR2 := Lib.hid hpr; have HV2 := Lib.hid hv; have HI0 := Lib.hid hI0
    clear hpr hv hI0
    by_cases hneg : imm < 0
    all_goals
      go_wp2_with fail
      go_loop [5, 6, 7, 8, 9, 10] (fun vh vd vn vm vi vk => ∃ K H D N M I : Nat, K ≤ 16 ∧ vk = .int .i64 ((K : Int) - 1) ∧ vh = .int .i64 H ∧ vd = .int .i64 D ∧ vn = .int .i64 N ∧ vm = .int .i64 M ∧ vi = .int .i64 I ∧ D < 4096 ∧ N < 4096 ∧ M < 4096 ∧ I < 4096 ∧ H < 65536 ∧
        Hid (H < 2 ^ (16 - K) ∧ H + putF (lets S K) (2 ^ (16 - K)) D N M I = putF (lets S 16) 1 D0 N0 M0 I0)) (fun _ _ _ _ _ vk => (intOf vk + 1).toNat)
      case atStart => exact ⟨16, 0, D0, N0, M0, I0, by omega, rfl, rfl, rfl, rfl, rfl, by rw [← HI0.out]; first | rw [if_pos (by omega)] | rw [if_neg (by omega)], by omega, by omega, by omega, by omega, by omega, Lib.hid ⟨by decide, by simp⟩⟩
      case round =>
        obtain ⟨K, H, D, N, M, I, hK, rfl, rfl, rfl, rfl, rfl, rfl, hD, hN, hM, hI, hH, HI⟩ := hrel
        cases K with
        | zero =>
          have h := HI.out.2
          have e : lets S 0 = [] := rfl
          rw [e, putF, Nat.add_zero, ← HPR2.out] at h
          have HF := Lib.hid h
          clear h e p1 p2 p3 p4
          go_wp2
          go_ret2
          exact ⟨by rw [HV2.out, ← HF.out]; go_num, below_drewN HB2.out _⟩
        | succ r =>
          have hr : r < S.size := by omega
          have hx := idx_s S r hr
          have hl := lets_succ S r hr
          have hc := S[r].toNat_lt
          generalize S[r].toNat = c at hx hl hc
          have HLT := Lib.hid hl
          clear hl p1 p2 p3 p4
          by_cases c49 : c = 49
          · subst c49
            have hs : stp 49 D N M I = (1, D, N, M, I) := by rfl
            have HS := Lib.hid hs
            clear hs
            have hb1 : 1 ≤ 1 := by omega
            go_wp2
            go_loop [11, 12] (fun vb vj => ∃ J B : Nat, r ≤ J ∧ J ≤ 15 ∧ vj = .int .i64 J ∧ vb = .int .i64 B ∧ B ≤ 32768 ∧ Hid (B = 1 * 2 ^ (J - r))) (fun _ vj => 15 - (intOf vj).toNat)
            case atStart => exact ⟨r, 1, by omega, by omega, rfl, by first | rfl | go_num, by omega, Lib.hid (by rw [Nat.sub_self, Nat.pow_zero, Nat.mul_one])⟩
            case round =>
              obtain ⟨J, B, hJr, hJ, rfl, rfl, hB, HBB⟩ := hrel
              by_cases hlt : J < 15
              · have hd := dbl _ r J B hJr HBB.out
                have hd2 := dbl_le _ r (J + 1) (B * 2) hb1 (by omega) hd
                have HD := Lib.hid hd
                clear hd
                go_wp2
                go_round
                case rel => exact ⟨J + 1, B * 2, by omega, by omega, by go_num, by go_num, hd2, HD⟩
                case measure => simp [intOf]; omega
              · have e15 : J = 15 := by omega
                subst e15
                have hst := put_step S r _ H D N M I _ _ _ _ _ B _ (by omega) HLT.out HS.out HI.out HBB.out
                have hlt2 : H + B < 65536 := Nat.lt_of_lt_of_le hst.1 (Nat.pow_le_pow_right (n := 2) (by decide) (by omega : 16 - r ≤ 16))
                have HST := Lib.hid hst
                clear hst
                go_wp2
                go_round
                case rel => exact ⟨r, H + B, D, N, M, I, by omega, by go_num, by go_num, rfl, rfl, rfl, rfl, by omega, by omega, by omega, by omega, hlt2, HST⟩
                case measure => simp [intOf]
          by_cases c100 : c = 100
          · subst c100
            have hs : stp 100 D N M I = ((D % 2), (D / 2), N, M, I) := by rfl
            have HS := Lib.hid hs
            clear hs
            have hb1 : (D % 2) ≤ 1 := by omega
            go_wp2
            go_loop [11, 12] (fun vb vj => ∃ J B : Nat, r ≤ J ∧ J ≤ 15 ∧ vj = .int .i64 J ∧ vb = .int .i64 B ∧ B ≤ 32768 ∧ Hid (B = (D % 2) * 2 ^ (J - r))) (fun _ vj => 15 - (intOf vj).toNat)
            case atStart => exact ⟨r, (D % 2), by omega, by omega, rfl, by first | rfl | go_num, by omega, Lib.hid (by rw [Nat.sub_self, Nat.pow_zero, Nat.mul_one])⟩
            case round =>
              obtain ⟨J, B, hJr, hJ, rfl, rfl, hB, HBB⟩ := hrel
              by_cases hlt : J < 15
              · have hd := dbl _ r J B hJr HBB.out
                have hd2 := dbl_le _ r (J + 1) (B * 2) hb1 (by omega) hd
                have HD := Lib.hid hd
                clear hd
                go_wp2
                go_round
                case rel => exact ⟨J + 1, B * 2, by omega, by omega, by go_num, by go_num, hd2, HD⟩
                case measure => simp [intOf]; omega
              · have e15 : J = 15 := by omega
                subst e15
                have hst := put_step S r _ H D N M I _ _ _ _ _ B _ (by omega) HLT.out HS.out HI.out HBB.out
                have hlt2 : H + B < 65536 := Nat.lt_of_lt_of_le hst.1 (Nat.pow_le_pow_right (n := 2) (by decide) (by omega : 16 - r ≤ 16))
                have HST := Lib.hid hst
                clear hst
                go_wp2
                go_round
                case rel => exact ⟨r, H + B, (D / 2), N, M, I, by omega, by go_num, by go_num, rfl, rfl, rfl, rfl, by omega, by omega, by omega, by omega, hlt2, HST⟩
                case measure => simp [intOf]
          by_cases c99 : c = 99
          · subst c99
            have hs : stp 99 D N M I = ((D % 2), (D / 2), N, M, I) := by rfl
            have HS := Lib.hid hs
            clear hs
            have hb1 : (D % 2) ≤ 1 := by omega
            go_wp2
            go_loop [11, 12] (fun vb vj => ∃ J B : Nat, r ≤ J ∧ J ≤ 15 ∧ vj = .int .i64 J ∧ vb = .int .i64 B ∧ B ≤ 32768 ∧ Hid (B = (D % 2) * 2 ^ (J - r))) (fun _ vj => 15 - (intOf vj).toNat)
            case atStart => exact ⟨r, (D % 2), by omega, by omega, rfl, by first | rfl | go_num, by omega, Lib.hid (by rw [Nat.sub_self, Nat.pow_zero, Nat.mul_one])⟩
            case round =>
              obtain ⟨J, B, hJr, hJ, rfl, rfl, hB, HBB⟩ := hrel
              by_cases hlt : J < 15
              · have hd := dbl _ r J B hJr HBB.out
                have hd2 := dbl_le _ r (J + 1) (B * 2) hb1 (by omega) hd
                have HD := Lib.hid hd
                clear hd
                go_wp2
                go_round
                case rel => exact ⟨J + 1, B * 2, by omega, by omega, by go_num, by go_num, hd2, HD⟩
                case measure => simp [intOf]; omega
              · have e15 : J = 15 := by omega
                subst e15
                have hst := put_step S r _ H D N M I _ _ _ _ _ B _ (by omega) HLT.out HS.out HI.out HBB.out
                have hlt2 : H + B < 65536 := Nat.lt_of_lt_of_le hst.1 (Nat.pow_le_pow_right (n := 2) (by decide) (by omega : 16 - r ≤ 16))
                have HST := Lib.hid hst
                clear hst
                go_wp2
                go_round
                case rel => exact ⟨r, H + B, (D / 2), N, M, I, by omega, by go_num, by go_num, rfl, rfl, rfl, rfl, by omega, by omega, by omega, by omega, hlt2, HST⟩
                case measure => simp [intOf]
          by_cases c110 : c = 110
          · subst c110
            have hs : stp 110 D N M I = ((N % 2), D, (N / 2), M, I) := by rfl
            have HS := Lib.hid hs
            clear hs
            have hb1 : (N % 2) ≤ 1 := by omega
            go_wp2
            go_loop [11, 12] (fun vb vj => ∃ J B : Nat, r ≤ J ∧ J ≤ 15 ∧ vj = .int .i64 J ∧ vb = .int .i64 B ∧ B ≤ 32768 ∧ Hid (B = (N % 2) * 2 ^ (J - r))) (fun _ vj => 15 - (intOf vj).toNat)
            case atStart => exact ⟨r, (N % 2), by omega, by omega, rfl, by first | rfl | go_num, by omega, Lib.hid (by rw [Nat.sub_self, Nat.pow_zero, Nat.mul_one])⟩
            case round =>
              obtain ⟨J, B, hJr, hJ, rfl, rfl, hB, HBB⟩ := hrel
              by_cases hlt : J < 15
              · have hd := dbl _ r J B hJr HBB.out
                have hd2 := dbl_le _ r (J + 1) (B * 2) hb1 (by omega) hd
                have HD := Lib.hid hd
                clear hd
                go_wp2
                go_round
                case rel => exact ⟨J + 1, B * 2, by omega, by omega, by go_num, by go_num, hd2, HD⟩
                case measure => simp [intOf]; omega
              · have e15 : J = 15 := by omega
                subst e15
                have hst := put_step S r _ H D N M I _ _ _ _ _ B _ (by omega) HLT.out HS.out HI.out HBB.out
                have hlt2 : H + B < 65536 := Nat.lt_of_lt_of_le hst.1 (Nat.pow_le_pow_right (n := 2) (by decide) (by omega : 16 - r ≤ 16))
                have HST := Lib.hid hst
                clear hst
                go_wp2
                go_round
                case rel => exact ⟨r, H + B, D, (N / 2), M, I, by omega, by go_num, by go_num, rfl, rfl, rfl, rfl, by omega, by omega, by omega, by omega, hlt2, HST⟩
                case measure => simp [intOf]
          by_cases c109 : c = 109
          · subst c109
            have hs : stp 109 D N M I = ((M % 2), D, N, (M / 2), I) := by rfl
            have HS := Lib.hid hs
            clear hs
            have hb1 : (M % 2) ≤ 1 := by omega
            go_wp2
            go_loop [11, 12] (fun vb vj => ∃ J B : Nat, r ≤ J ∧ J ≤ 15 ∧ vj = .int .i64 J ∧ vb = .int .i64 B ∧ B ≤ 32768 ∧ Hid (B = (M % 2) * 2 ^ (J - r))) (fun _ vj => 15 - (intOf vj).toNat)
            case atStart => exact ⟨r, (M % 2), by omega, by omega, rfl, by first | rfl | go_num, by omega, Lib.hid (by rw [Nat.sub_self, Nat.pow_zero, Nat.mul_one])⟩
            case round =>
              obtain ⟨J, B, hJr, hJ, rfl, rfl, hB, HBB⟩ := hrel
              by_cases hlt : J < 15
              · have hd := dbl _ r J B hJr HBB.out
                have hd2 := dbl_le _ r (J + 1) (B * 2) hb1 (by omega) hd
                have HD := Lib.hid hd
                clear hd
                go_wp2
                go_round
                case rel => exact ⟨J + 1, B * 2, by omega, by omega, by go_num, by go_num, hd2, HD⟩
                case measure => simp [intOf]; omega
              · have e15 : J = 15 := by omega
                subst e15
                have hst := put_step S r _ H D N M I _ _ _ _ _ B _ (by omega) HLT.out HS.out HI.out HBB.out
                have hlt2 : H + B < 65536 := Nat.lt_of_lt_of_le hst.1 (Nat.pow_le_pow_right (n := 2) (by decide) (by omega : 16 - r ≤ 16))
                have HST := Lib.hid hst
                clear hst
                go_wp2
                go_round
                case rel => exact ⟨r, H + B, D, N, (M / 2), I, by omega, by go_num, by go_num, rfl, rfl, rfl, rfl, by omega, by omega, by omega, by omega, hlt2, HST⟩
                case measure => simp [intOf]
          by_cases c105 : c = 105
          · subst c105
            have hs : stp 105 D N M I = ((I % 2), D, N, M, (I / 2)) := by rfl
            have HS := Lib.hid hs
            clear hs
            have hb1 : (I % 2) ≤ 1 := by omega
            go_wp2
            go_loop [11, 12] (fun vb vj => ∃ J B : Nat, r ≤ J ∧ J ≤ 15 ∧ vj = .int .i64 J ∧ vb = .int .i64 B ∧ B ≤ 32768 ∧ Hid (B = (I % 2) * 2 ^ (J - r))) (fun _ vj => 15 - (intOf vj).toNat)
            case atStart => exact ⟨r, (I % 2), by omega, by omega, rfl, by first | rfl | go_num, by omega, Lib.hid (by rw [Nat.sub_self, Nat.pow_zero, Nat.mul_one])⟩
            case round =>
              obtain ⟨J, B, hJr, hJ, rfl, rfl, hB, HBB⟩ := hrel
              by_cases hlt : J < 15
              · have hd := dbl _ r J B hJr HBB.out
                have hd2 := dbl_le _ r (J + 1) (B * 2) hb1 (by omega) hd
                have HD := Lib.hid hd
                clear hd
                go_wp2
                go_round
                case rel => exact ⟨J + 1, B * 2, by omega, by omega, by go_num, by go_num, hd2, HD⟩
                case measure => simp [intOf]; omega
              · have e15 : J = 15 := by omega
                subst e15
                have hst := put_step S r _ H D N M I _ _ _ _ _ B _ (by omega) HLT.out HS.out HI.out HBB.out
                have hlt2 : H + B < 65536 := Nat.lt_of_lt_of_le hst.1 (Nat.pow_le_pow_right (n := 2) (by decide) (by omega : 16 - r ≤ 16))
                have HST := Lib.hid hst
                clear hst
                go_wp2
                go_round
                case rel => exact ⟨r, H + B, D, N, M, (I / 2), by omega, by go_num, by go_num, rfl, rfl, rfl, rfl, by omega, by omega, by omega, by omega, hlt2, HST⟩
                case measure => simp [intOf]
          have g49 : ((c : Int) == 49) = false := by simp; omega
          have g100 : ((c : Int) == 100) = false := by simp; omega
          have g99 : ((c : Int) == 99) = false := by simp; omega
          have g110 : ((c : Int) == 110) = false := by simp; omega
          have g109 : ((c : Int) == 109) = false := by simp; omega
          have g105 : ((c : Int) == 105) = false := by simp; omega
          have hs : stp c D N M I = (0, D, N, M, I) := by unfold stp; rw [if_neg c49, if_neg (by omega), if_neg c110, if_neg c109, if_neg c105]
          have HS := Lib.hid hs
          clear hs c49 c100 c99 c110 c109 c105
          have hb1 : 0 ≤ 1 := by omega
          go_wp2
          go_loop [11, 12] (fun vb vj => ∃ J B : Nat, r ≤ J ∧ J ≤ 15 ∧ vj = .int .i64 J ∧ vb = .int .i64 B ∧ B ≤ 32768 ∧ Hid (B = 0 * 2 ^ (J - r))) (fun _ vj => 15 - (intOf vj).toNat)
          case atStart => exact ⟨r, 0, by omega, by omega, rfl, by first | rfl | go_num, by omega, Lib.hid (by rw [Nat.sub_self, Nat.pow_zero, Nat.mul_one])⟩
          case round =>
            obtain ⟨J, B, hJr, hJ, rfl, rfl, hB, HBB⟩ := hrel
            by_cases hlt : J < 15
            · have hd := dbl _ r J B hJr HBB.out
              have hd2 := dbl_le _ r (J + 1) (B * 2) hb1 (by omega) hd
              have HD := Lib.hid hd
              clear hd
              go_wp2
              go_round
              case rel => exact ⟨J + 1, B * 2, by omega, by omega, by go_num, by go_num, hd2, HD⟩
              case measure => simp [intOf]; omega
            · have e15 : J = 15 := by omega
              subst e15
              have hst := put_step S r _ H D N M I _ _ _ _ _ B _ (by omega) HLT.out HS.out HI.out HBB.out
              have hlt2 : H + B < 65536 := Nat.lt_of_lt_of_le hst.1 (Nat.pow_le_pow_right (n := 2) (by decide) (by omega : 16 - r ≤ 16))
              have HST := Lib.hid hst
              clear hst
              go_wp2
              go_round
              case rel => exact ⟨r, H + B, D, N, M, I, by omega, by go_num, by go_num, rfl, rfl, rfl, rfl, by omega, by omega, by omega, by omega, hlt2, HST⟩
              case measure => simp [intOf]
end Go.Proofs.YtkipfeljpngkeaaDoor.ThRef
