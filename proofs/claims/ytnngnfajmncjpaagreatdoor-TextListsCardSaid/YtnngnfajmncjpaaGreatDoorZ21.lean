/- DERIVED. TpPut, TpPut2 in one text. By an AI agent. -/
import Derived.Test.YtnngnfajmncjpaaGreatDoorZ17
import Derived.Test.YtnngnfajmncjpaaGreatDoorZ20
import Derived.Laws.BitsAllLaws
/- DERIVED. The contract of the program's Put. By an AI agent. -/
namespace Go.Proofs.YtnngnfajmncjpaaGreatDoor.Tp
open Go.ChangeShapes Go.WideShapes Go.ChangeAt Go.RowKit Go.Sort ThRef
set_option linter.unusedVariables false
def putT : List Nat → Nums → Nat → Nat
  | [], _, h => h
  | k :: l, s, h => putT l s (h ||| putN (fldN k) (s.get (fldN k).of))
theorem fld_ok (x : Nat) (hx : x < 13) : (fldN x).wid ≤ 11 ∧ (fldN x).wid + (fldN x).low ≤ 16 ∧ (fldN x).low ≤ 15 ∧ -1024 ≤ (fldN x).least ∧ (fldN x).least ≤ 1 := by
  have : ∀ i : Fin 13, (fldN i.val).wid ≤ 11 ∧ (fldN i.val).wid + (fldN i.val).low ≤ 16 ∧ (fldN i.val).low ≤ 15 ∧ -1024 ≤ (fldN i.val).least ∧ (fldN i.val).least ≤ 1 := by decide +kernel
  exact this ⟨x, hx⟩
theorem putN_lt (f : Fld) (v : Int) : putN f v < 2 ^ (f.wid + f.low) := by
  unfold putN
  have hp := Nat.two_pow_pos f.wid
  have h0 : 0 ≤ v % ((2 ^ f.wid : Nat) : Int) := Int.emod_nonneg _ (by omega)
  have h1 : v % ((2 ^ f.wid : Nat) : Int) < ((2 ^ f.wid : Nat) : Int) := Int.emod_lt_of_pos _ (by omega)
  rw [Nat.pow_add]
  exact Nat.mul_lt_mul_of_pos_right (by omega) (Nat.two_pow_pos _)
theorem b_or16 (x y : Nat) (hx : x < 65536) (hy : y < 65536) : bits .or .u16 (x : Int) (y : Int) = ((x ||| y : Nat) : Int) := by
  have e : ∀ z : Nat, z < 65536 → (BitVec.ofInt 16 (z : Int)).toNat = z := fun z hz => by rw [BitVec.ofInt_natCast, BitVec.toNat_ofNat]; omega
  show IntKind.u16.wrap ((BitVec.ofInt 16 (x : Int) ||| BitVec.ofInt 16 (y : Int)).toNat : Int) = _
  rw [BitVec.toNat_or, e x hx, e y hy, IntKind.wrap_u16]
  have : x ||| y < 2 ^ 16 := Nat.or_lt_two_pow hx hy
  omega
def baseN (k : Nat) : Nat := (shpN k).head * 2 ^ (shpN k).low
theorem base_ok (k : Nat) (hk : k < 21) : baseN k < 65536 ∧ (shpN k).head < 65536 ∧ (shpN k).low ≤ 12 := by
  have : ∀ i : Fin 21, baseN i.val < 65536 ∧ (shpN i.val).head < 65536 ∧ (shpN i.val).low ≤ 12 := by decide +kernel
  exact this ⟨k, hk⟩
theorem base_wrap (k : Nat) (hk : k < 21) : IntKind.u16.wrap (((shpN k).head : Int) * 2 ^ (shpN k).low) = ((baseN k : Nat) : Int) := by
  have h := (base_ok k hk).1
  have e1 : (((shpN k).head : Int) * 2 ^ (shpN k).low) = ((baseN k : Nat) : Int) := by unfold baseN; rw [Int.natCast_mul, Int.natCast_pow]; rfl
  rw [e1, IntKind.wrap_u16]; omega
set_option maxRecDepth 100000 in
set_option maxHeartbeats 4000000 in
theorem put_body (k : Nat) (hk : k < 21) (s : Nums) (w : World) (hT : Tb w) (hc : canB k s.d s.n s.m s.i = true) :
    Calls Tryz.prog 23 #[insN k s] w fun e w' => e = .returned (.tuple #[.int .u16 (putT (shpN k).has s (baseN k) : Nat), .int .i64 0]) ∧ Below w.heap.size w w' := by
  have hlt := has_lt k hk
  have hlen : (shpN k).has.length ≤ 3 := by
    have : ∀ i : Fin 21, (shpN i.val).has.length ≤ 3 := by decide +kernel
    exact this ⟨k, hk⟩
  have hcan := fun W h => can k s.d s.n s.m s.i W h
  rw [hc] at hcan
  have HCAN := Lib.hid hcan
  have HT := Lib.hid hT
  have HLT := Lib.hid hlt
  obtain ⟨b1, b2, b3⟩ := base_ok k hk
  have HBASE := Lib.hid (base_wrap k hk)
  generalize hL : (shpN k).has = L at *
  generalize baseN k = B at *
  have HL := Lib.hid hL
  clear hT hcan hc hlt hL
  go_enter Tryz.func23, Tryz.ntmps23
  go_wp2_with fail
  refine (HCAN.out _ (HT.out.below ((Below.refl _ _).alloc (Nat.le_refl _) _))).mono ?_
  rintro e w1 ⟨rfl, hb1⟩
  have hbw : Below w.heap.size w w1 := ((Below.refl _ _).alloc (Nat.le_refl _) _).trans (hb1.mono (by simp))
  have hH : Holds w.heap.size k s w1 := (holds_new w k s).below hb1
  have hT1 := HT.out.below hbw
  obtain ⟨a, cap, t2, hrow⟩ := hT1.s2 k hk
  rw [HL.out] at t2 hrow
  have t0 := hT1.s0 k hk; have t1 := hT1.s1 k hk
  have q0 := hH.cell 0
  have HH1 := Lib.hid hH; have HB1 := Lib.hid hbw; have HR := Lib.hid hrow; have HT1 := Lib.hid hT1
  clear hb1 hbw hH hrow hT1
  go_wp2_with fail
  go_quiet (fail)
  go_wp2_with fail
  rw [HBASE.out]
  clear t0 t1 t2 q0
  go_loopw [4, 28] (fun vh vi wr => ∃ (j : Nat) (h : Nat), j ≤ L.length ∧ vi = .int .i64 j ∧ vh = .int .u16 h ∧ h < 65536 ∧ Hid (Holds w.heap.size k s wr ∧ Below w.heap.size w wr ∧ Below w1.heap.size w1 wr ∧ putT (L.drop j) s h = putT L s B)) (fun _ vi _ => L.length - (intOf vi).toNat)
  case atStart => exact ⟨0, B, by omega, rfl, rfl, b1, Lib.hid ⟨HH1.out, below_drewN HB1.out _, below_drewN (Below.refl _ _) _, rfl⟩⟩
  case round =>
    obtain ⟨j, h, hj, rfl, rfl, hh, HH⟩ := hrel
    by_cases hlt : j < L.length
    · have hx : L[j]? = some (L[j]'hlt) := List.getElem?_eq_getElem hlt
      have hx13 := HLT.out j _ hx
      have hcell := HR.out j _ hx
      have hblk := World.block_lt_of_cell? w1 _ hcell
      have hcell2 : wr.cell? (a.add j) = _ := (HH.out.2.2.1.cell hblk).trans hcell
      have hblk2 := World.block_lt_of_cell? wr _ hcell2
      have hdrop := List.drop_eq_getElem_cons hlt
      generalize L[j]'hlt = x at hx hx13 hcell hcell2 hdrop
      have hTr := HT1.out.below HH.out.2.2.1
      have f0 := hTr.f0 x hx13; have f1 := hTr.f1 x hx13; have f2 := hTr.f2 x hx13; have f3 := hTr.f3 x hx13; have f4 := hTr.f4 x hx13
      have gf2 := hTr.gf
      have hok := fld_ok x hx13
      have HD := Lib.hid hdrop; have HOK := Lib.hid hok
      clear hcell hblk hx hdrop hTr hok
      go_wp2_with fail
      have hHr := HH.out.1
      have hal : ∀ o, Below wr.heap.size wr (wr.alloc o) := fun o => (Below.refl _ _).alloc (Nat.le_refl _) _
      have hnum := (hHr.below (hal (.cells #[.int .i64 (fldN x).of, .int .u64 (fldN x).low, .int .u64 (fldN x).wid, .int .i64 (fldN x).least, .int .i64 (fldN x).most] 77))).num (fldN x).of
      have hcc : ∀ j, (wr.alloc (.cells #[.int .i64 (fldN x).of, .int .u64 (fldN x).low, .int .u64 (fldN x).wid, .int .i64 (fldN x).least, .int .i64 (fldN x).most] 77)).cell? ⟨wr.heap.size, j, none⟩ = _ := fun j => World.cell?_alloc_at _ _ _ _ rfl
      have r0 := fun d os => cell_regrown (hcc 0) d os
      have r1 := fun d os => cell_regrown (hcc 1) d os
      have r2 := fun d os => cell_regrown (hcc 2) d os
      have r3 := fun d os => cell_regrown (hcc 3) d os
      have r4 := fun d os => cell_regrown (hcc 4) d os
      have r5 := fun d os => cell_regrown hnum d os
      have hN := number (fldN x) w.heap.size
      have hP := fun n => put (fldN x) n HOK.out.1 HOK.out.2.1
      have HN := Lib.hid hN; have HP := Lib.hid hP
      clear hcc hHr hal hnum hN hP
      refine wp_region_quiet_below (by kernel_rfl) (by kernel_rfl) ?_
      repeat (go_big_quiet_step ((first | (go_at_call 33; exact Calls.regrown_of (HN.out _)) | (go_at_call 40; exact Calls.regrown_of (HP.out _ _)))))
      refine wpQuiet_nil ?_
      intro _ hw'
      obtain ⟨⟨dq, osq⟩, hw''⟩ := hw'
      subst hw''
      clear r0 r1 r2 r3 r4 r5
      go_wp2_with fail
      go_roundw
      case rel =>
        have hor := b_or16 h (putN (fldN x) (s.get (fldN x).of)) hh (Nat.lt_of_lt_of_le (putN_lt _ _) (Nat.pow_le_pow_right (by decide) HOK.out.2.1))
        have hlt2 : h ||| putN (fldN x) (s.get (fldN x).of) < 65536 := Nat.or_lt_two_pow (n := 16) hh (Nat.lt_of_lt_of_le (putN_lt _ _) (Nat.pow_le_pow_right (by decide) HOK.out.2.1))
        have hbel : Below wr.heap.size wr (grow (redrawn (wr.alloc (.cells #[.int .i64 (fldN x).of, .int .u64 (fldN x).low, .int .u64 (fldN x).wid, .int .i64 (fldN x).least, .int .i64 (fldN x).most] 77)) dq) osq) := ((Below.refl _ _).alloc (Nat.le_refl _) _).trans ((below_regrown _ dq osq).mono (by simp))
        refine ⟨j + 1, h ||| putN (fldN x) (s.get (fldN x).of), by omega, by go_num, by rw [hor], hlt2, Lib.hid ⟨HH.out.1.below hbel, HH.out.2.1.trans (hbel.mono HH.out.2.1.size), HH.out.2.2.1.trans (hbel.mono HH.out.2.2.1.size), ?_⟩⟩
        rw [← HH.out.2.2.2, HD.out, putT]
      case measure => simp [intOf]; omega
    · have hjl : L.drop j = [] := List.drop_eq_nil_of_le (by omega)
      have hfin : h = putT L s B := by rw [← HH.out.2.2.2, hjl, putT]
      have HF := Lib.hid hfin
      clear hfin hjl
      go_wp2_with fail
      go_ret2
      exact ⟨by rw [← HF.out]; rfl, HH.out.2.1⟩
end Go.Proofs.YtnngnfajmncjpaaGreatDoor.Tp
/- DERIVED. The program's Put answers as the reference's, whatever the numbers. By an AI agent. -/
namespace Go.Proofs.YtnngnfajmncjpaaGreatDoor.Tp
open Go.ChangeShapes Go.WideShapes Go.ChangeAt Go.RowKit Go.Sort ThRef
set_option linter.unusedVariables false
def sumT : List Nat → Nums → Nat
  | [], _ => 0
  | k :: l, s => putN (fldN k) (s.get (fldN k).of) + sumT l s
def chain : List Nat → Nat → Bool
  | [], _ => true
  | k :: l, lo => decide ((fldN k).wid + (fldN k).low ≤ lo) && chain l (fldN k).low
theorem putT_sum : ∀ (L : List Nat) (s : Nums) (acc lo : Nat), chain L lo = true → acc % 2 ^ lo = 0 → putT L s acc = acc + sumT L s
  | [], _, _, _, _, _ => rfl
  | k :: l, s, acc, lo, hc, ha => by
    simp only [chain, Bool.and_eq_true, decide_eq_true_eq] at hc
    obtain ⟨h1, h2⟩ := hc
    have hb : putN (fldN k) (s.get (fldN k).of) < 2 ^ lo := Nat.lt_of_lt_of_le (putN_lt _ _) (Nat.pow_le_pow_right (by decide) h1)
    have hq : acc = 2 ^ lo * (acc / 2 ^ lo) := by have := Nat.div_add_mod acc (2 ^ lo); omega
    have hor : acc ||| putN (fldN k) (s.get (fldN k).of) = acc + putN (fldN k) (s.get (fldN k).of) := by
      rw [hq]; exact (Nat.two_pow_add_eq_or_of_lt hb _).symm
    rw [putT, sumT, hor, putT_sum l s _ (fldN k).low h2]
    · omega
    · have hd : 2 ^ (fldN k).low ∣ 2 ^ lo := Nat.pow_dvd_pow 2 (by omega)
      have hd1 : 2 ^ (fldN k).low ∣ acc := Nat.dvd_trans hd (Nat.dvd_of_mod_eq_zero ha)
      have hd2 : 2 ^ (fldN k).low ∣ putN (fldN k) (s.get (fldN k).of) := ⟨_, by unfold putN; rw [Nat.mul_comm]⟩
      exact Nat.mod_eq_zero_of_dvd (Nat.dvd_add hd1 hd2)
theorem chain_ok (k : Nat) (hk : k < 21) : chain (shpN k).has (shpN k).low = true ∧ baseN k % 2 ^ (shpN k).low = 0 := by
  have : ∀ i : Fin 21, chain (shpN i.val).has (shpN i.val).low = true ∧ baseN i.val % 2 ^ (shpN i.val).low = 0 := by decide +kernel
  exact this ⟨k, hk⟩
set_option maxHeartbeats 4000000 in
theorem sum_putR (k : Nat) (hk : k < 21) (D N M : Nat) (imm : Int) (h0 : -1024 ≤ imm) : baseN k + sumT (shpN k).has ⟨D, N, M, imm⟩ = putR k D N M (if imm < 0 then imm + 2048 else imm).toNat := by
  have hI : ∃ I : Nat, (if imm < 0 then imm + 2048 else imm).toNat = I ∧ (imm = I ∨ imm = (I : Int) - 2048) := ⟨(if imm < 0 then imm + 2048 else imm).toNat, rfl, by split <;> omega⟩
  obtain ⟨I, e, hI⟩ := hI
  rw [e]
  clear e h0
  have hr : k = 0 ∨ k = 1 ∨ k = 2 ∨ k = 3 ∨ k = 4 ∨ k = 5 ∨ k = 6 ∨ k = 7 ∨ k = 8 ∨ k = 9 ∨ k = 10 ∨ k = 11 ∨ k = 12 ∨ k = 13 ∨ k = 14 ∨ k = 15 ∨ k = 16 ∨ k = 17 ∨ k = 18 ∨ k = 19 ∨ k = 20 := by omega
  clear hk
  rcases hr with rfl | rfl | rfl | rfl | rfl | rfl | rfl | rfl | rfl | rfl | rfl | rfl | rfl | rfl | rfl | rfl | rfl | rfl | rfl | rfl | rfl
  · rw [put0]; simp [baseN, sumT, putN, shpN, shps, fldN, flds, Nums.get]; omega
  · rw [put1]; simp [baseN, sumT, putN, shpN, shps, fldN, flds, Nums.get]; omega
  · rw [put2]; simp [baseN, sumT, putN, shpN, shps, fldN, flds, Nums.get]; omega
  · rw [put3]; simp [baseN, sumT, putN, shpN, shps, fldN, flds, Nums.get]; omega
  · rw [put4]; simp [baseN, sumT, putN, shpN, shps, fldN, flds, Nums.get]; omega
  · rw [put5]; simp [baseN, sumT, putN, shpN, shps, fldN, flds, Nums.get]; omega
  · rw [put6]; simp [baseN, sumT, putN, shpN, shps, fldN, flds, Nums.get]; omega
  · rw [put7]; simp [baseN, sumT, putN, shpN, shps, fldN, flds, Nums.get]; omega
  · rw [put8]; simp [baseN, sumT, putN, shpN, shps, fldN, flds, Nums.get]; omega
  · rw [put9]; simp [baseN, sumT, putN, shpN, shps, fldN, flds, Nums.get]; omega
  · rw [put10]; simp [baseN, sumT, putN, shpN, shps, fldN, flds, Nums.get]; omega
  · rw [put11]; simp [baseN, sumT, putN, shpN, shps, fldN, flds, Nums.get]; omega
  · rw [put12]; simp [baseN, sumT, putN, shpN, shps, fldN, flds, Nums.get]; omega
  · rw [put13]; simp [baseN, sumT, putN, shpN, shps, fldN, flds, Nums.get]; omega
  · rw [put14]; simp [baseN, sumT, putN, shpN, shps, fldN, flds, Nums.get]; omega
  · rw [put15]; simp [baseN, sumT, putN, shpN, shps, fldN, flds, Nums.get]; omega
  · rw [put16]; simp [baseN, sumT, putN, shpN, shps, fldN, flds, Nums.get]; omega
  · rw [put17]; simp [baseN, sumT, putN, shpN, shps, fldN, flds, Nums.get]; omega
  · rw [put18]; simp [baseN, sumT, putN, shpN, shps, fldN, flds, Nums.get]; omega
  · rw [put19]; simp [baseN, sumT, shpN, shps]
  · rw [put20]; simp [baseN, sumT, putN, shpN, shps, fldN, flds, Nums.get]; omega
set_option maxHeartbeats 4000000 in
theorem putP (op d n m imm : Int) (w : World) (hT : Tb w) : Calls Tryz.prog 23 #[ins op d n m imm] w fun e w' => e = .returned (putV op d n m imm) ∧ Below w.heap.size w w' := by
  by_cases hc : canB op d n m imm = true
  · have ho := can_op op d n m imm hc
    obtain ⟨⟨d0, d1⟩, ⟨n0, n1⟩, ⟨m0, m1⟩, i0, i1⟩ := can_bounds op d n m imm hc
    obtain ⟨k, rfl⟩ := Int.eq_ofNat_of_zero_le ho.1
    obtain ⟨D, rfl⟩ := Int.eq_ofNat_of_zero_le d0
    obtain ⟨N, rfl⟩ := Int.eq_ofNat_of_zero_le n0
    obtain ⟨M, rfl⟩ := Int.eq_ofNat_of_zero_le m0
    have hk : k < 21 := by omega
    have h := put_body k hk ⟨D, N, M, imm⟩ w hT hc
    obtain ⟨c1, c2⟩ := chain_ok k hk
    rw [putT_sum _ _ _ _ c1 c2, sum_putR k hk D N M imm i0] at h
    unfold putV
    rw [hc]
    exact h
  · have hc2 : canB op d n m imm = false := by simpa using hc
    have hcan := fun W h => can op d n m imm W h
    have hv : putV op d n m imm = .tuple #[.int .u16 0, .int .i64 1] := by unfold putV; rw [hc2]; rfl
    rw [hc2] at hcan
    have HC := Lib.hid hcan; have HV := Lib.hid hv; have HT := Lib.hid hT
    clear hcan hv hc hc2 hT
    go_enter Tryz.func23, Tryz.ntmps23
    go_wp2_with fail
    refine (HC.out _ (HT.out.below ((Below.refl _ _).alloc (Nat.le_refl _) _))).mono ?_
    rintro e w1 ⟨rfl, hb1⟩
    go_wp2_with fail
    go_ret2
    exact ⟨by rw [HV.out]; rfl, ((Below.refl _ _).alloc (Nat.le_refl _) _).trans (hb1.mono (by simp))⟩
end Go.Proofs.YtnngnfajmncjpaaGreatDoor.Tp
