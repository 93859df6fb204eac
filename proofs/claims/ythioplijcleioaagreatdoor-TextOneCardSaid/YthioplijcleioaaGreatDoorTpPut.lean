/- DERIVED. The contract of the program's Put. By an AI agent. -/
import Derived.Test.YthioplijcleioaaGreatDoorTpCan2
import Derived.Test.YthioplijcleioaaGreatDoorThForm
import Derived.Laws.BitsAllLaws
namespace Go.Proofs.YthioplijcleioaaGreatDoor.Tp
open Go.ChangeShapes Go.WideShapes Go.ChangeAt Go.RowKit Go.Sort ThRef
set_option linter.unusedVariables false
def putT : List Nat → Nums → Nat → Nat
  | [], _, h => h
  | k :: l, s, h => putT l s (h ||| putN (fldN k) (s.get (fldN k).of))
theorem fld_ok (x : Nat) (hx : x < 13) : (fldN x).wid ≤ 11 ∧ (fldN x).wid + (fldN x).low ≤ 16 ∧ (fldN x).low ≤ 15 ∧ -1024 ≤ (fldN x).least ∧ (fldN x).least ≤ 1 := by
  have : ∀ i : Fin 13, (fldN i.val).wid ≤ 11 ∧ (fldN i.val).wid + (fldN i.val).low ≤ 16 ∧ (fldN i.val).low ≤ 15 ∧ -1024 ≤ (fldN i.val).least ∧ (fldN i.val).least ≤ 1 := by decide +kernel
  exact this ⟨x, hx⟩
theorem putN_lt (f : Fld) (v : Int) : putN f v < 2 ^ (f.wid + f.low) := by
  unfold putN
  have hp := Nat.two_pow_pos f.wid
  have h0 : 0 ≤ v % ((2 ^ f.wid : Nat) : Int) := Int.emod_nonneg _ (by omega)
  have h1 : v % ((2 ^ f.wid : Nat) : Int) < ((2 ^ f.wid : Nat) : Int) := Int.emod_lt_of_pos _ (by omega)
  rw [Nat.pow_add]
  exact Nat.mul_lt_mul_of_pos_right (by omega) (Nat.two_pow_pos _)
theorem b_or16 (x y : Nat) (hx : x < 65536) (hy : y < 65536) : bits .or .u16 (x : Int) (y : Int) = ((x ||| y : Nat) : Int) := by
  have e : ∀ z : Nat, z < 65536 → (BitVec.ofInt 16 (z : Int)).toNat = z := fun z hz => by rw [BitVec.ofInt_natCast, BitVec.toNat_ofNat]; omega
  show IntKind.u16.wrap ((BitVec.ofInt 16 (x : Int) ||| BitVec.ofInt 16 (y : Int)).toNat : Int) = _
  rw [BitVec.toNat_or, e x hx, e y hy, IntKind.wrap_u16]
  have : x ||| y < 2 ^ 16 := Nat.or_lt_two_pow hx hy
  omega
def baseN (k : Nat) : Nat := (shpN k).head * 2 ^ (shpN k).low
theorem base_ok (k : Nat) (hk : k < 21) : baseN k < 65536 ∧ (shpN k).head < 65536 ∧ (shpN k).low ≤ 12 := by
  have : ∀ i : Fin 21, baseN i.val < 65536 ∧ (shpN i.val).head < 65536 ∧ (shpN i.val).low ≤ 12 := by decide +kernel
  exact this ⟨k, hk⟩
theorem base_wrap (k : Nat) (hk : k < 21) : IntKind.u16.wrap (((shpN k).head : Int) * 2 ^ (shpN k).low) = ((baseN k : Nat) : Int) := by
  have h := (base_ok k hk).1
  have e1 : (((shpN k).head : Int) * 2 ^ (shpN k).low) = ((baseN k : Nat) : Int) := by unfold baseN; rw [Int.natCast_mul, Int.natCast_pow]; rfl
  rw [e1, IntKind.wrap_u16]; omega
set_option maxRecDepth 100000 in
set_option maxHeartbeats 4000000 in
theorem put_body (k : Nat) (hk : k < 21) (s : Nums) (w : World) (hT : Tb w) (hc : canB k s.d s.n s.m s.i = true) :
    Calls Tryz.prog 24 #[insN k s] w fun e w' => e = .returned (.tuple #[.int .u16 (putT (shpN k).has s (baseN k) : Nat), .int .i64 0]) ∧ Below w.heap.size w w' := by
  have hlt := has_lt k hk
  have hlen : (shpN k).has.length ≤ 3 := by
    have : ∀ i : Fin 21, (shpN i.val).has.length ≤ 3 := by decide +kernel
    exact this ⟨k, hk⟩
  have hcan := fun W h => can k s.d s.n s.m s.i W h
  rw [hc] at hcan
  have HCAN := Lib.hid hcan
  have HT := Lib.hid hT
  have HLT := Lib.hid hlt
  obtain ⟨b1, b2, b3⟩ := base_ok k hk
  have HBASE := Lib.hid (base_wrap k hk)
  generalize hL : (shpN k).has = L at *
  generalize baseN k = B at *
  have HL := Lib.hid hL
  clear hT hcan hc hlt hL
  go_enter Tryz.func24, Tryz.ntmps24
  go_wp2_with fail
  refine (HCAN.out _ (HT.out.below ((Below.refl _ _).alloc (Nat.le_refl _) _))).mono ?_
  rintro e w1 ⟨rfl, hb1⟩
  have hbw : Below w.heap.size w w1 := ((Below.refl _ _).alloc (Nat.le_refl _) _).trans (hb1.mono (by simp))
  have hH : Holds w.heap.size k s w1 := (holds_new w k s).below hb1
  have hT1 := HT.out.below hbw
  obtain ⟨a, cap, t2, hrow⟩ := hT1.s2 k hk
  rw [HL.out] at t2 hrow
  have t0 := hT1.s0 k hk; have t1 := hT1.s1 k hk
  have q0 := hH.cell 0
  have HH1 := Lib.hid hH; have HB1 := Lib.hid hbw; have HR := Lib.hid hrow; have HT1 := Lib.hid hT1
  clear hb1 hbw hH hrow hT1
  go_wp2_with fail
  go_quiet (fail)
  go_wp2_with fail
  rw [HBASE.out]
  clear t0 t1 t2 q0
  go_loopw [4, 28] (fun vh vi wr => ∃ (j : Nat) (h : Nat), j ≤ L.length ∧ vi = .int .i64 j ∧ vh = .int .u16 h ∧ h < 65536 ∧ Hid (Holds w.heap.size k s wr ∧ Below w.heap.size w wr ∧ Below w1.heap.size w1 wr ∧ putT (L.drop j) s h = putT L s B)) (fun _ vi _ => L.length - (intOf vi).toNat)
  case atStart => exact ⟨0, B, by omega, rfl, rfl, b1, Lib.hid ⟨HH1.out, below_drewN HB1.out _, below_drewN (Below.refl _ _) _, rfl⟩⟩
  case round =>
    obtain ⟨j, h, hj, rfl, rfl, hh, HH⟩ := hrel
    by_cases hlt : j < L.length
    · have hx : L[j]? = some (L[j]'hlt) := List.getElem?_eq_getElem hlt
      have hx13 := HLT.out j _ hx
      have hcell := HR.out j _ hx
      have hblk := World.block_lt_of_cell? w1 _ hcell
      have hcell2 : wr.cell? (a.add j) = _ := (HH.out.2.2.1.cell hblk).trans hcell
      have hblk2 := World.block_lt_of_cell? wr _ hcell2
      have hdrop := List.drop_eq_getElem_cons hlt
      generalize L[j]'hlt = x at hx hx13 hcell hcell2 hdrop
      have hTr := HT1.out.below HH.out.2.2.1
      have f0 := hTr.f0 x hx13; have f1 := hTr.f1 x hx13; have f2 := hTr.f2 x hx13; have f3 := hTr.f3 x hx13; have f4 := hTr.f4 x hx13
      have gf2 := hTr.gf
      have hok := fld_ok x hx13
      have HD := Lib.hid hdrop; have HOK := Lib.hid hok
      clear hcell hblk hx hdrop hTr hok
      go_wp2_with fail
      have hHr := HH.out.1
      have hal : ∀ o, Below wr.heap.size wr (wr.alloc o) := fun o => (Below.refl _ _).alloc (Nat.le_refl _) _
      have hnum := (hHr.below (hal (.cells #[.int .i64 (fldN x).of, .int .u64 (fldN x).low, .int .u64 (fldN x).wid, .int .i64 (fldN x).least, .int .i64 (fldN x).most] 78))).num (fldN x).of
      have hcc : ∀ j, (wr.alloc (.cells #[.int .i64 (fldN x).of, .int .u64 (fldN x).low, .int .u64 (fldN x).wid, .int .i64 (fldN x).least, .int .i64 (fldN x).most] 78)).cell? ⟨wr.heap.size, j, none⟩ = _ := fun j => World.cell?_alloc_at _ _ _ _ rfl
      have r0 := fun d os => cell_regrown (hcc 0) d os
      have r1 := fun d os => cell_regrown (hcc 1) d os
      have r2 := fun d os => cell_regrown (hcc 2) d os
      have r3 := fun d os => cell_regrown (hcc 3) d os
      have r4 := fun d os => cell_regrown (hcc 4) d os
      have r5 := fun d os => cell_regrown hnum d os
      have hN := number (fldN x) w.heap.size
      have hP := fun n => put (fldN x) n HOK.out.1 HOK.out.2.1
      have HN := Lib.hid hN; have HP := Lib.hid hP
      clear hcc hHr hal hnum hN hP
      refine wp_region_quiet_below (by kernel_rfl) (by kernel_rfl) ?_
      repeat (go_big_quiet_step ((first | (go_at_call 34; exact Calls.regrown_of (HN.out _)) | (go_at_call 41; exact Calls.regrown_of (HP.out _ _)))))
      refine wpQuiet_nil ?_
      intro _ hw'
      obtain ⟨⟨dq, osq⟩, hw''⟩ := hw'
      subst hw''
      clear r0 r1 r2 r3 r4 r5
      go_wp2_with fail
      go_roundw
      case rel =>
        have hor := b_or16 h (putN (fldN x) (s.get (fldN x).of)) hh (Nat.lt_of_lt_of_le (putN_lt _ _) (Nat.pow_le_pow_right (by decide) HOK.out.2.1))
        have hlt2 : h ||| putN (fldN x) (s.get (fldN x).of) < 65536 := Nat.or_lt_two_pow (n := 16) hh (Nat.lt_of_lt_of_le (putN_lt _ _) (Nat.pow_le_pow_right (by decide) HOK.out.2.1))
        have hbel : Below wr.heap.size wr (grow (redrawn (wr.alloc (.cells #[.int .i64 (fldN x).of, .int .u64 (fldN x).low, .int .u64 (fldN x).wid, .int .i64 (fldN x).least, .int .i64 (fldN x).most] 78)) dq) osq) := ((Below.refl _ _).alloc (Nat.le_refl _) _).trans ((below_regrown _ dq osq).mono (by simp))
        refine ⟨j + 1, h ||| putN (fldN x) (s.get (fldN x).of), by omega, by go_num, by rw [hor], hlt2, Lib.hid ⟨HH.out.1.below hbel, HH.out.2.1.trans (hbel.mono HH.out.2.1.size), HH.out.2.2.1.trans (hbel.mono HH.out.2.2.1.size), ?_⟩⟩
        rw [← HH.out.2.2.2, HD.out, putT]
      case measure => simp [intOf]; omega
    · have hjl : L.drop j = [] := List.drop_eq_nil_of_le (by omega)
      have hfin : h = putT L s B := by rw [← HH.out.2.2.2, hjl, putT]
      have HF := Lib.hid hfin
      clear hfin hjl
      go_wp2_with fail
      go_ret2
      exact ⟨by rw [← HF.out]; rfl, HH.out.2.1⟩
end Go.Proofs.YthioplijcleioaaGreatDoor.Tp
