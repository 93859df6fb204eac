/- DERIVED. RnStep, RnLaid in one text. By an AI agent. -/
import Derived.Test.YtkafmpdjpjgkgaaDoorZ24
import Derived.Test.YtkafmpdjpjgkgaaDoorZ15
import Derived.Test.YtkafmpdjpjgkgaaDoorZ22
/- DERIVED. The contract of run's step. By an AI agent. -/
namespace Go.Proofs.YtkafmpdjpjgkgaaDoor.Rn
open Go.ChangeShapes Go.WideShapes Go.ChangeAt Go.RowKit WMath Word Args Mm Co Lk
set_option linter.unusedVariables false
set_option linter.unusedSimpArgs false
/-- One instruction; what it leaks is zero, if it is not asked for. -/
def lk (told : Bool) (s : S) (m : St) : R5 := ⟨(leakV s m).s, if told then (leakV s m).l else zL, (leakV s m).st, (leakV s m).er, (leakV s m).m⟩
theorem lk_false (s : S) (m : St) : lk false s m = ⟨(stepV s m).1, zL, (stepV s m).2.1, (stepV s m).2.2.1, (stepV s m).2.2.2⟩ := by
  unfold lk leakV
  split
  · rename_i h; simp [h]
  · rfl
set_option maxRecDepth 100000 in
set_option maxHeartbeats 4000000 in
theorem stepT (s : S) (n0 : Nat) (h : Hd) (m : St) (w : World) (p : PP n0 h m w) (W0 : World) (hT0 : Tp.Tb W0) (hlo : Below W0.heap.size W0 w) (hn : W0.heap.size ≤ n0) : Calls Tryd.prog 28 #[sv s, ptr h.r, .bool true] w (LkEnd n0 h (leakV s m) w) := by
  have hC := fun W p hlo => lstep s n0 h m W p W0 hT0 hlo hn
  rcases hq : leakV s m with ⟨x, l, st, er, m2⟩
  rw [hq] at hC
  clear hq
  have hX : ∀ k, h.X k → k < w.heap.size := fun k hk => (p.lt (Hd.XB hk)).2
  have hBB : ∀ k, h.B k → k < w.heap.size := fun k hk => (p.lt hk).2
  have HX := Lib.hid hX; have HBB := Lib.hid hBB; have HP := Lib.hid p; have HC := Lib.hid hC; have HLO := Lib.hid hlo
  clear hX hBB p hC hlo hT0 hn
  obtain ⟨hls, hbel⟩ := ls_new w s
  have HS := Lib.hid hls; have HB := Lib.hid hbel
  clear hls hbel
  go_enter Tryd.func28, Tryd.ntmps28
  go_upto_region 1 with fail
  change Code.wp _ _ _ _ (((w.alloc (.cells (sC s) 51)).alloc (.cells (sC zS) 51)).alloc (.cells (lC zL) 39))
  generalize (((w.alloc (.cells (sC s) 51)).alloc (.cells (sC zS) 51)).alloc (.cells (lC zL) 39)) = w1 at *
  obtain ⟨n0', n1, n2, n3, n4, n5, n6, n7, n8, n9, n10, n11, n12⟩ := Blk.cells13 HS.out.b0
  go_wp2_with fail
  refine (HC.out _ (HP.out.below HB.out) (HLO.out.trans (HB.out.mono HLO.out.size))).mono ?_
  rintro e w4 ⟨rfl, hp4, hu4⟩
  have HS4 := Lib.hid (HS.out.upd hu4 HX.out)
  have HU4 := Lib.hid ((Upd.of_below HB.out h.X).trans hu4)
  have HP4 := Lib.hid hp4
  clear n0' n1 n2 n3 n4 n5 n6 n7 n8 n9 n10 n11 n12 hp4 hu4 HS HB HC HLO HP
  obtain ⟨z0, z1, z2, z3, z4, z5, z6, z7, z8, z9, z10, z11, z12⟩ := Blk.cells13 HS4.out.b1
  obtain ⟨f0, f1, f2, f3, f4, f5, f6, f7, f8, f9, f10, f11, f12⟩ := Blk.frozen13 HS4.out.b1
  obtain ⟨y0, y1, y2, y3, y4, y5, y6, y7, y8, y9⟩ := Blk.cells10 HS4.out.b2
  obtain ⟨k0, k1, k2, k3, k4, k5, k6, k7, k8, k9⟩ := Blk.frozen10 HS4.out.b2
  go_wp2_with fail
  clear z0 z1 z2 z3 z4 z5 z6 z7 z8 z9 z10 z11 z12 f0 f1 f2 f3 f4 f5 f6 f7 f8 f9 f10 f11 f12 y0 y1 y2 y3 y4 y5 y6 y7 y8 y9 k0 k1 k2 k3 k4 k5 k6 k7 k8 k9
  obtain ⟨w20, hw20, hQ1, hQ2, hPP, hUU⟩ := Ls.fin HS4.out HP4.out HU4.out HBB.out x l
  have HU := Lib.hid hUU; have HPP := Lib.hid hPP; have HQ1 := Lib.hid hQ1; have HQ2 := Lib.hid hQ2
  simp only [put13, put10] at hw20
  rw [hw20]
  clear hw20 hQ1 hQ2 hPP hUU HS4 HP4 HU4
  obtain ⟨y0, y1, y2, y3, y4, y5, y6, y7, y8, y9⟩ := Blk.cells10 HQ2.out
  obtain ⟨n0', n1, n2, n3, n4, n5, n6, n7, n8, n9, n10, n11, n12⟩ := Blk.cells13 HQ1.out
  exact bodyPost_ret (v := rV5 ⟨x, l, st, er, m2⟩) (by simp [results, Tryd.results28, go_sem, n0', n1, n2, n3, n4, n5, n6, n7, n8, n9, n10, n11, n12, y0, y1, y2, y3, y4, y5, y6, y7, y8, y9]) rfl ⟨rfl, HPP.out, HU.out⟩
set_option maxRecDepth 100000 in
set_option maxHeartbeats 4000000 in
theorem stepF (s : S) (n0 : Nat) (h : Hd) (m : St) (w : World) (p : PP n0 h m w) (hT : Tp.Tb w) : Calls Tryd.prog 28 #[sv s, ptr h.r, .bool false] w (LkEnd n0 h (lk false s m) w) := by
  rw [lk_false]
  have hC := fun W p hT => cstep s n0 h m W p hT
  rcases hq : stepV s m with ⟨x, st, er, m2⟩
  rw [hq] at hC
  clear hq
  have hX : ∀ k, h.X k → k < w.heap.size := fun k hk => (p.lt (Hd.XB hk)).2
  have hBB : ∀ k, h.B k → k < w.heap.size := fun k hk => (p.lt hk).2
  have HX := Lib.hid hX; have HBB := Lib.hid hBB; have HP := Lib.hid p; have HC := Lib.hid hC; have HT := Lib.hid hT
  clear hX hBB p hC hT
  obtain ⟨hls, hbel⟩ := ls_new w s
  have HS := Lib.hid hls; have HB := Lib.hid hbel
  clear hls hbel
  go_enter Tryd.func28, Tryd.ntmps28
  go_upto_region 1 with fail
  change Code.wp _ _ _ _ (((w.alloc (.cells (sC s) 51)).alloc (.cells (sC zS) 51)).alloc (.cells (lC zL) 39))
  generalize (((w.alloc (.cells (sC s) 51)).alloc (.cells (sC zS) 51)).alloc (.cells (lC zL) 39)) = w1 at *
  obtain ⟨n0', n1, n2, n3, n4, n5, n6, n7, n8, n9, n10, n11, n12⟩ := Blk.cells13 HS.out.b0
  go_wp2_with fail
  refine (HC.out _ (HP.out.below HB.out) (HT.out.below HB.out)).mono ?_
  rintro e w4 ⟨rfl, hp4, hu4⟩
  have HS4 := Lib.hid (HS.out.upd hu4 HX.out)
  have HU4 := Lib.hid ((Upd.of_below HB.out h.X).trans hu4)
  have HP4 := Lib.hid hp4
  clear n0' n1 n2 n3 n4 n5 n6 n7 n8 n9 n10 n11 n12 hp4 hu4 HS HB HC HT HP
  go_upto_region 4 with fail
  have hx : Below w4.heap.size w4 (w4.alloc (.cells (sC x) 51)) := (Below.refl _ _).alloc (Nat.le_refl _) _
  have HS5 := Lib.hid (HS4.out.below hx)
  have HU5 := Lib.hid (HU4.out.trans (Upd.of_below hx h.X))
  have HP5 := Lib.hid (HP4.out.below hx)
  have HI5 := Lib.hid (Blk.new w4 51 (sC x))
  obtain ⟨w5, hw5⟩ : ∃ w5, w4.alloc (.cells (sC x) 51) = w5 := ⟨_, rfl⟩
  rw [hw5] at HS5 HU5 HP5 HI5
  simp only [sC] at hw5
  rw [hw5]
  generalize w4.heap.size = g5 at *
  clear hw5 hx HS4 HU4 HP4
  obtain ⟨n0', n1, n2, n3, n4, n5, n6, n7, n8, n9, n10, n11, n12⟩ := Blk.cells13 HI5.out
  obtain ⟨z0, z1, z2, z3, z4, z5, z6, z7, z8, z9, z10, z11, z12⟩ := Blk.cells13 HS5.out.b1
  obtain ⟨f0, f1, f2, f3, f4, f5, f6, f7, f8, f9, f10, f11, f12⟩ := Blk.frozen13 HS5.out.b1
  obtain ⟨y0, y1, y2, y3, y4, y5, y6, y7, y8, y9⟩ := Blk.cells10 HS5.out.b2
  obtain ⟨k0, k1, k2, k3, k4, k5, k6, k7, k8, k9⟩ := Blk.frozen10 HS5.out.b2
  go_wp2_with fail
  clear n0' n1 n2 n3 n4 n5 n6 n7 n8 n9 n10 n11 n12 z0 z1 z2 z3 z4 z5 z6 z7 z8 z9 z10 z11 z12 f0 f1 f2 f3 f4 f5 f6 f7 f8 f9 f10 f11 f12 y0 y1 y2 y3 y4 y5 y6 y7 y8 y9 k0 k1 k2 k3 k4 k5 k6 k7 k8 k9
  obtain ⟨w20, hw20, hQ1, hQ2, hPP, hUU⟩ := Ls.fin HS5.out HP5.out HU5.out HBB.out x zL
  have HU := Lib.hid hUU; have HPP := Lib.hid hPP; have HQ1 := Lib.hid hQ1; have HQ2 := Lib.hid hQ2
  simp only [put13, put10] at hw20
  change bodyPost _ _ _ _ _ (World.setCell _ _ _)
  erw [hw20]
  clear hw20 hQ1 hQ2 hPP hUU HS5 HP5 HU5 HI5
  obtain ⟨y0, y1, y2, y3, y4, y5, y6, y7, y8, y9⟩ := Blk.cells10 HQ2.out
  obtain ⟨n0', n1, n2, n3, n4, n5, n6, n7, n8, n9, n10, n11, n12⟩ := Blk.cells13 HQ1.out
  simp only [zL] at y0 y1 y2 y3 y4 y5 y6 y7 y8 y9
  exact bodyPost_ret (v := rV5 ⟨x, zL, st, er, m2⟩) (by simp [results, Tryd.results28, go_sem, n0', n1, n2, n3, n4, n5, n6, n7, n8, n9, n10, n11, n12, y0, y1, y2, y3, y4, y5, y6, y7, y8, y9, zL]) rfl ⟨rfl, HPP.out, HU.out⟩
end Go.Proofs.YtkafmpdjpjgkgaaDoor.Rn
/- DERIVED. The contract of the program's laid: memory in which the words are what they are at first. By an AI agent. -/
namespace Go.Proofs.YtkafmpdjpjgkgaaDoor.Rn
open Go.ChangeShapes Go.WideShapes Go.ChangeAt Go.RowKit Args Mm
set_option linter.unusedVariables false
set_option linter.unusedSimpArgs false
/-- Words set, one behind the other. -/
def wset (D : List Int) : Nat → St → St
  | 0, m => m
  | k + 1, m => setS (wset D k m) k (D.getD k 0)
theorem wset_len (D : List Int) : ∀ (k : Nat) (m : St), (wset D k m).W.length = m.W.length
  | 0, m => rfl
  | k + 1, m => by rw [wset, (setS_len _ _ _).2.1]; exact wset_len D k m
theorem wset_at (D : List Int) : ∀ (k : Nat) (m : St), k ≤ D.length → m.W.length = D.length → wset D k m = { m with W := D.take k ++ m.W.drop k }
  | 0, m, _, _ => by simp [wset]
  | k + 1, m, hk, hl => by
    have hw := wset_len D k m
    rw [wset, wset_at D k m (by omega) hl]
    have h1 : (D.take k).length = k := by rw [List.length_take]; omega
    have h2 : (D.take k ++ m.W.drop k).length = m.W.length := by rw [List.length_append, h1, List.length_drop]; omega
    unfold setS
    rw [if_pos ⟨by omega, by simp only; rw [h2]; omega⟩]
    simp only [Int.toNat_natCast]
    rw [List.set_append_right k _ (by omega), h1, Nat.sub_self]
    have h3 : k < m.W.length := by omega
    have h4 : k < D.length := by omega
    rw [List.drop_eq_getElem_cons h3, List.set_cons_zero, List.take_succ_eq_append_getElem h4, List.append_assoc]
    simp [List.getD, List.getElem?_eq_getElem h4]
theorem wset_all (C D T : List Int) : wset D D.length ⟨C, noughts D.length, T, 0, 0⟩ = ⟨C, D, T, 0, 0⟩ := by
  rw [wset_at D D.length _ (Nat.le_refl _) (noughts_len _)]
  simp [noughts]
/-- Memory that begins so. -/
def m0 (C D T : List Int) : St := ⟨C, D, T, 0, 0⟩
set_option maxRecDepth 100000 in
set_option maxHeartbeats 4000000 in
theorem laid (AC : Option Addr) (cC : Nat) (C : List Int) (AD : Option Addr) (cD : Nat) (D : List Int) (AT : Option Addr) (cT : Nat) (T : List Int) (w : World)
    (hC : Lies w AC (C.map (.int .u16))) (hD : Lies w AD (D.map (.int .u32))) (hT : Lies w AT (T.map (.int .u32)))
    (hc : C.length ≤ cC) (hcm : cC ≤ maxLen) (hd : D.length ≤ cD) (hdm : cD ≤ maxLen) (hf : Fit (m0 C D T)) (ld : D.length ≤ 30) (lt : T.length ≤ 60000) :
    Calls Tryd.prog 27 #[.slice AC C.length cC, .slice AD D.length cD, .slice AT T.length cT] w (NewEnd 80 (m0 C D T) w) := by
  have hf0 : Fit ⟨C, noughts D.length, T, 0, 0⟩ := ⟨hf.c, noughts_in _, hf.t, Nat.zero_le _, ⟨Int.le_refl 0, by show (0 : Int) < 4294967296; decide⟩, hf.cl, by show (noughts D.length).length ≤ 16000; rw [noughts_len]; omega, hf.tl⟩
  have hN := new_c AC cC C D.length AT cT T w hC hT hc hcm hf0 lt
  have hall := wset_all C D T
  have hwf := hf.w
  have hmin : (if (16000 : Int) < (D.length : Int) then 16000 else (D.length : Int)) = (D.length : Int) := by rw [if_neg (by omega)]
  have had : (if cD = 0 then AD else AD.map (fun x => x.add 0)) = AD := by
    split
    · rfl
    · cases AD with
      | none => rfl
      | some a => simp [Args.add0]
  have h0 : (0 : Int) ≤ (D.length : Int) := by omega
  have h1 : (D.length : Int) ≤ (cD : Int) := by omega
  have HN := Lib.hid hN; have HALL := Lib.hid hall; have HWF := Lib.hid hwf; have HD := Lib.hid hD
  have HLD := Lib.hid ld; have HDD := Lib.hid hd
  clear hN hall hwf hC hD hT hc hcm hd hdm hf hf0 ld lt
  go_enter Tryd.func27, Tryd.ntmps27
  go_wp2_with fail
  refine HN.out.mono ?_
  rintro e w1 ⟨h, rfl, hp1, hx1⟩
  have HP1 := Lib.hid hp1; have HX1 := Lib.hid hx1
  have HL1 := Lib.hid (show (⟨C, noughts D.length, T, 0, 0⟩ : St).W.length = D.length from noughts_len _)
  generalize (⟨C, noughts D.length, T, 0, 0⟩ : St) = M at *
  clear hp1 hx1 HN hmin had h1
  go_wp2_with fail
  go_loopw [22] (fun vk wr => ∃ k : Nat, k ≤ D.length ∧ vk = .int .i64 k ∧ Hid (PP w.heap.size h (wset D k M) wr) ∧ Hid (Ext w wr)) (fun vk _ => D.length - (intOf vk).toNat)
  case atStart => exact ⟨0, by omega, rfl, HP1, HX1⟩
  case round =>
    clear HP1 HX1
    obtain ⟨k, hk, rfl, HP, HX⟩ := hrel
    by_cases hlt : k < D.length
    · have hcell : (D.map (Value.int .u32))[k]? = some (.int .u32 (D.getD k 0)) := by simp [List.getElem?_eq_getElem hlt, List.getD]
      obtain ⟨b, o, rfl, _, hcc⟩ := (HX.out.lies HD.out).at_ hcell
      have e1 := hcc _ _ hcell
      have hz : 0 ≤ D.getD k 0 ∧ D.getD k 0 < 4294967296 := by
        have : D.getD k 0 = D[k] := by simp [List.getD, List.getElem?_eq_getElem hlt]
        rw [this]; exact HWF.out _ (List.getElem_mem hlt)
      have hst : wset D (k + 1) M = setS (wset D k M) k (D.getD k 0) := rfl
      generalize D.getD k 0 = z at *
      have HZ := Lib.hid hz; have HST := Lib.hid hst; have HLT := Lib.hid hlt
      have hk2 : (k : Int) < (D.length : Int) := by omega
      have hk0 : (0 : Int) ≤ (k : Int) := by omega
      have hk9 : (k : Int) < 1000 := by have := HLD.out; omega
      clear hcell hcc hz hst hk hlt h0
      go_wp2_with fail
      refine (Mm.set w.heap.size h (wset D k M) wr (k : Int) z HZ.out HP.out).mono ?_
      rintro e w6 ⟨rfl, hp6, hu6⟩
      have HP6 := Lib.hid hp6; have HX6 := Lib.hid (back HX.out hu6 (PM.X_low HP.out))
      clear hp6 hu6
      go_wp2_with fail
      go_roundw
      case rel => exact ⟨k + 1, by have := HLT.out; omega, by go_num, by rw [HST.out]; exact HP6, HX6⟩
      case measure => have := HLT.out; simp [intOf]; omega
    · obtain rfl : k = D.length := by omega
      clear hlt hk h0
      rw [HALL.out] at HP
      go_wp2_with fail
      go_ret
      exact ⟨h, rfl, HP.out, HX.out⟩
end Go.Proofs.YtkafmpdjpjgkgaaDoor.Rn
