/- DERIVED. CoSh in one text. By an AI agent. -/
import Derived.Test.YtkafmpdjpjgkgaaDoorZ02
import Derived.Test.YtkafmpdjpjgkgaaDoorZ01
/- DERIVED. The contract of the reference's Shift. By an AI agent. -/
namespace Go.Proofs.YtkafmpdjpjgkgaaDoor.Co
open Go.ChangeShapes Go.WideShapes Go.ChangeAt Go.RowKit WMath Word Ref Args
set_option linter.unusedVariables false
def nowA (f : Nat → Bool) : Array Value := ((List.range 32).map fun q => Value.bool (f q)).toArray
theorem nowA_get (f : Nat → Bool) (q : Nat) (hq : q < 32) : (nowA f)[q]? = some (.bool (f q)) := by
  unfold nowA; simp [hq]
theorem nowA_set (f : Nat → Bool) (j : Nat) (v : Bool) : (nowA f).setIfInBounds j (.bool v) = nowA fun q => if q = j then v else f q := by
  apply Array.ext_getElem?
  intro i
  rw [Array.getElem?_setIfInBounds]
  by_cases hi : i < 32
  · rw [nowA_get _ _ hi, nowA_get _ _ hi]
    by_cases h : j = i
    · subst h; simp [nowA, hi]
    · simp [h, Ne.symm h]
  · have e : ∀ f : Nat → Bool, (nowA f)[i]? = none := fun f => by simp [nowA]; omega
    rw [e, e]
    by_cases h : j = i
    · subst h; simp [nowA, hi]
    · simp [h]
theorem nowA_congr {f g : Nat → Bool} (h : ∀ q, q < 32 → f q = g q) : nowA f = nowA g := by
  unfold nowA
  congr 1
  exact List.map_congr_left fun q hq => by rw [h q (List.mem_range.1 hq)]
/-- What the inner loop has made. -/
structure Nw (wr : World) (g k : Nat) (x : BitVec 32) (j : Nat) (wx : World) : Prop where
  blk : Blk wx wr.heap.size 4 (nowA fun q => decide (q < j) && nbi k x q)
  old : ∀ q, q < 32 → wx.cell? ⟨g, q, none⟩ = some (.bool (x.getLsbD q))
  ext : Below wr.heap.size wr wx
  lt : g < wr.heap.size
theorem Nw.stay {wr wx : World} {g k j : Nat} {x : BitVec 32} (h : Nw wr g k x j wx) (hj : nbi k x j = false) : Nw wr g k x (j + 1) wx := by
  refine ⟨?_, h.old, h.ext, h.lt⟩
  have := h.blk
  rwa [nowA_congr (g := fun q => decide (q < j + 1) && nbi k x q) fun q _ => ?_] at this
  by_cases e : q = j
  · subst e; simp [hj]
  · congr 1; simp; omega
theorem Nw.next {wr wx : World} {g k j : Nat} {x : BitVec 32} (h : Nw wr g k x j wx) (b : Bool) (hb : nbi k x j = b) : Nw wr g k x (j + 1) (wx.setCell ⟨wr.heap.size, j, none⟩ (.bool b)) := by
  refine ⟨?_, fun q hq => ?_, h.ext.setCell (p := ⟨wr.heap.size, j, none⟩) (Nat.le_refl _) _, h.lt⟩
  · have := h.blk.set j (.bool b)
    rw [nowA_set] at this
    rwa [nowA_congr (g := fun q => decide (q < j + 1) && nbi k x q) fun q _ => ?_] at this
    by_cases e : q = j
    · subst e; simp [hb]
    · simp only [e, if_false]; congr 1; simp; omega
  · have hne : g ≠ wr.heap.size := by have := h.lt; omega
    rw [← h.old q hq]
    exact World.cell?_of_block (Below.heap_setCell wx _ _ g hne)
/-- Behind the round. -/
theorem Nw.fin {wr wx : World} {g k : Nat} {x y : BitVec 32} (h : Nw wr g k x 32 wx) (hk : k < 2) (hy : ∀ j, j < 32 → y.getLsbD j = nb k x j) : ∀ j, j < 32 → wx.cell? ⟨wr.heap.size, j, none⟩ = some (.bool (y.getLsbD j)) := fun j hj => by
  rw [h.blk.cell, nowA_get _ _ hj, hy j hj]
  simp [nb, hj, show ¬ (j = 31 ∧ k = 2) by omega, show ¬ (j = 31 ∧ k = 3) by omega]
theorem Nw.fin2 {wr wx : World} {g k : Nat} {x y : BitVec 32} (h : Nw wr g k x 32 wx) (b : Bool) (hb : nb k x 31 = b) (hy : ∀ j, j < 32 → y.getLsbD j = nb k x j) : ∀ j, j < 32 → (wx.setCell ⟨wr.heap.size, 31, none⟩ (.bool b)).cell? ⟨wr.heap.size, j, none⟩ = some (.bool (y.getLsbD j)) := fun j hj => by
  have := h.blk.set 31 (.bool b)
  rw [nowA_set] at this
  rw [this.cell, nowA_get _ _ hj, hy j hj]
  by_cases e : j = 31
  · subst e; simp [hb]
  · simp [nb, hj, e]
theorem mk32 : ∀ w : World, (Instr.makeSlice 109 (.int .i64 32) (.int .i64 32)).run Tryd.prog w = .ok (.slice (some ⟨w.heap.size, 0, none⟩) 32 32) (w.alloc (.cells (nowA fun _ => false) 4)) := fun _ => by kernel_rfl
theorem Nw.start {wr : World} {g k : Nat} {x : BitVec 32} (hg : g < wr.heap.size) (hx : ∀ q, q < 32 → wr.cell? ⟨g, q, none⟩ = some (.bool (x.getLsbD q))) : Nw wr g k x 0 (wr.alloc (.cells (nowA fun _ => false) 4)) := by
  refine ⟨?_, fun q hq => ?_, (Below.refl _ _).alloc (Nat.le_refl _) _, hg⟩
  · rw [nowA_congr (g := fun _ => false) fun q _ => by simp]
    exact Blk.new wr _ _
  · rw [← hx q hq]
    exact World.cell?_of_block (Below.heap_alloc wr _ g hg)
theorem Nw.cellG {wr wx : World} {g k j : Nat} {x : BitVec 32} (h : Nw wr g k x j wx) (q : Nat) (hq : q < 32) : ∃ b, wx.cell? ⟨wr.heap.size, q, none⟩ = some (.bool b) := ⟨_, by rw [h.blk.cell, nowA_get _ _ hq]⟩
/-- The word of 32 cells, whatever draws. -/
def ShEnd (v : BitVec 32) (c : Bool) (w : World) (e : Ending) (w' : World) : Prop := e = .returned (.tuple #[u v, .bool c]) ∧ Below w.heap.size w w'
set_option maxRecDepth 100000 in
set_option maxHeartbeats 1500000 in
theorem rsh0 (a : BitVec 32) (n : Nat) (hn : n < 4294967296) (c : Bool) (w : World) :
    Calls Tryd.prog 64 #[.int .i64 0, u a, .int .u32 n, .bool c] w (ShEnd (shV 0 a n) (shC 0 a n c) w) := by
  obtain ⟨e1, e2⟩ := sh_rby 0 (by decide) a n c
  have e1' : shV (0 : Int) a (min (rby 0 n) 70) = shV (0 : Int) a n := e1
  have e2' : shC (0 : Int) a (min (rby 0 n) 70) c = shC (0 : Int) a n c := e2
  rw [← e1', ← e2']
  have hz := shV_zero 0 (by decide) a
  have hs0 : shC 0 a 0 c = c := by unfold shC; rw [if_neg (by omega), if_pos rfl]
  have hS := sh_succ 0 (by decide) a
  have hC := shc_succ 0 (by decide) a
  have hmk := mk32
  have HZ := Lib.hid hz; have HS0 := Lib.hid hs0; have HS := Lib.hid hS; have HC := Lib.hid hC
  clear e1 e2 e1' e2' hz hs0 hS hC
  have hrb : rby 0 n = n := by unfold rby; rw [if_neg (by omega)]
  rw [hrb]
  have HN : ∀ i : Nat, i < min (n) 70 ↔ i < 70 ∧ i < n := fun i => by omega
  clear hrb
  go_enter Tryd.func64, Tryd.ntmps64
  go_wp2_with fail
  refine (bitsC a _).mono ?_
  rintro e w1 ⟨g, cap, rfl, hcap, hmx, hg, hs, hc, hb⟩
  have HC0 := Lib.hid hc; have HB0 := Lib.hid hb
  clear hc hb
  go_wp2_with fail
  go_loopw [3, 10, 11] (fun vc vb vi wr => ∃ (i g cap : Nat), i ≤ min (n) 70 ∧ vi = .int .u32 i ∧ vc = .bool (shC 0 a i c) ∧ vb = .slice (some ⟨g, 0, none⟩) 32 cap ∧ 32 ≤ cap ∧ cap ≤ maxLen ∧ g < wr.heap.size ∧ Hid (∀ j, j < 32 → wr.cell? ⟨g, j, none⟩ = some (.bool ((shV 0 a i).getLsbD j))) ∧ Hid (Below w.heap.size w wr)) (fun _ _ vi _ => 70 - (intOf vi).toNat)
  case atStart => exact ⟨0, g, cap, by omega, rfl, congrArg Value.bool HS0.out.symm, rfl, hcap, hmx, hs, Lib.hid fun j hj => by rw [show shV 0 a 0 = a from HZ.out]; exact HC0.out j hj, HB0⟩
  case round =>
    clear hcap hmx hs HC0 HB0 hg
    obtain ⟨i, g, cap, hi, rfl, rfl, rfl, hcap, hmx, hg, HX, HB⟩ := hrel
    by_cases hlt : i < min (n) 70
    · have hS := HS.out i
      have hC := HC.out i c
      have hXX := HX.out
      have hi70 := (HN i).1 hlt
      have hiN : (i : Int) < (n : Int) := by omega
      have hi7 : (i : Int) < 70 := by omega
      have hx : ∃ x : BitVec 32, shV 0 a i = x := ⟨_, rfl⟩
      obtain ⟨x, hx⟩ := hx
      rw [show shV (0 : Nat) a i = x from hx] at hS hC
      rw [hx] at hXX
      have x0 := hXX 0 (by decide); have x31 := hXX 31 (by decide)
      have HS1 := Lib.hid hS; have HC1 := Lib.hid hC; have HX1 := Lib.hid (Nw.start (k := 0) hg hXX)
      have HLT := Lib.hid hlt
      clear hS hC hXX hx HX hi hi70 hlt HN
      go_wp2_with fail
      generalize wr = wo at *
      go_loopw [13] (fun vj wr => ∃ j : Nat, j ≤ 32 ∧ vj = .int .i64 j ∧ Hid (Nw wo g 0 x j wr)) (fun vj _ => 32 - (intOf vj).toNat)
      case atStart => exact ⟨0, by omega, rfl, HX1⟩
      case round =>
        clear HX1 x0 x31
        obtain ⟨j, hj, rfl, HW⟩ := hrel
        by_cases hj32 : j < 32
        · obtain ⟨b0, hG⟩ := HW.out.cellG j hj32
          have hF := HW.out.blk.frozen j
          rcases Nat.eq_zero_or_pos j with rfl | hpos
          · go_wp2_with fail
            go_roundw
            case rel => exact ⟨1, by omega, rfl, Lib.hid (HW.out.stay (by simp [nbi]))⟩
            case measure => simp [intOf]
          · obtain ⟨m, hm⟩ : ∃ m, m + 1 = j := ⟨j - 1, by omega⟩
            have hO := HW.out.old m (by omega)
            have hnb : nbi 0 x j = x.getLsbD m := by unfold nbi; subst hm; simp
            have hjm : ((j : Int) - 1).toNat = m := by omega
            have hj1 : (1 : Int) ≤ (j : Int) := by omega
            have hj2 : (0 : Int) < (j : Int) := by omega
            have hj3 : (j : Int) < 32 := by omega
            have hj4 : (j : Int) - 1 < 32 := by omega
            generalize x.getLsbD m = b at *
            have HM := Lib.hid hm; have HNB := Lib.hid hnb
            clear hm hnb hpos
            go_wp2_with fail
            go_roundw
            case rel => exact ⟨j + 1, by omega, by go_num, Lib.hid (HW.out.next _ HNB.out)⟩
            case measure => simp [intOf]; omega
        · obtain rfl : j = 32 := by omega
          have x0 := HW.out.old 0 (by decide); have x31 := HW.out.old 31 (by decide)
          obtain ⟨b0, hG⟩ := HW.out.cellG 31 (by decide)
          have hF := HW.out.blk.frozen 31
          have hsz := HW.out.ext.size
          have hbits := HW.out
          have HBB := Lib.hid (HB.out.trans (HW.out.ext.mono HB.out.size))
          have HFIN := Lib.hid (HW.out.fin (by decide) (HS1.out))
          have hlt2 : wo.heap.size < wr.heap.size := HW.out.blk.lt
          have hcc : shC 0 a (i + 1) c = x.getLsbD 31 := HC1.out
          clear hbits hsz
          have HCC := Lib.hid hcc
          clear hcc
          go_wp2_with fail
          go_roundw
          case rel => exact ⟨i + 1, wo.heap.size, 32, by have := HLT.out; omega, by go_num, congrArg Value.bool HCC.out.symm, rfl, by decide, by decide, hlt2, HFIN, HBB⟩
          case measure => simp [intOf]; omega
    · have hiN : min (n) 70 = i := by omega
      have hi2 : (i = 70 ∧ 70 < n) ∨ (i ≤ 70 ∧ i = n) := by omega
      obtain ⟨y, hy⟩ : ∃ y, shV 0 a i = y := ⟨_, rfl⟩
      obtain ⟨cc, hcc⟩ : ∃ cc, shC 0 a i c = cc := ⟨_, rfl⟩
      rw [hcc]
      rw [hy] at HX
      have HY := Lib.hid hy; have HCC := Lib.hid hcc
      clear hy hcc
      have hw := wordC y g cap wr hcap HX.out
      have HWW := Lib.hid hw
      have HI := Lib.hid hiN
      clear hw hiN hlt hi HN
      rcases hi2 with ⟨h1, h2⟩ | ⟨h1, h2⟩
      · have h3 : decide ((i : Int) < 70) = false := by simp; omega
        have h4 : i < n := by omega
        clear h1 h2
        go_wp2_with fail
        refine HWW.out.mono ?_
        rintro e w' ⟨rfl, rfl⟩
        go_wp2_with fail
        go_ret2
        exact ⟨by rw [HI.out, HY.out, HCC.out]; rfl, HB.out⟩
      · have h3 : decide (i < n) = false := by simp; omega
        clear h2
        go_wp2_with fail
        refine HWW.out.mono ?_
        rintro e w' ⟨rfl, rfl⟩
        go_wp2_with fail
        go_ret2
        exact ⟨by rw [HI.out, HY.out, HCC.out]; rfl, HB.out⟩
set_option maxRecDepth 100000 in
set_option maxHeartbeats 1500000 in
theorem rsh1 (a : BitVec 32) (n : Nat) (hn : n < 4294967296) (c : Bool) (w : World) :
    Calls Tryd.prog 64 #[.int .i64 1, u a, .int .u32 n, .bool c] w (ShEnd (shV 1 a n) (shC 1 a n c) w) := by
  obtain ⟨e1, e2⟩ := sh_rby 1 (by decide) a n c
  have e1' : shV (1 : Int) a (min (rby 1 n) 70) = shV (1 : Int) a n := e1
  have e2' : shC (1 : Int) a (min (rby 1 n) 70) c = shC (1 : Int) a n c := e2
  rw [← e1', ← e2']
  have hz := shV_zero 1 (by decide) a
  have hs0 : shC 1 a 0 c = c := by unfold shC; rw [if_neg (by omega), if_pos rfl]
  have hS := sh_succ 1 (by decide) a
  have hC := shc_succ 1 (by decide) a
  have hmk := mk32
  have HZ := Lib.hid hz; have HS0 := Lib.hid hs0; have HS := Lib.hid hS; have HC := Lib.hid hC
  clear e1 e2 e1' e2' hz hs0 hS hC
  have hrb : rby 1 n = n := by unfold rby; rw [if_neg (by omega)]
  rw [hrb]
  have HN : ∀ i : Nat, i < min (n) 70 ↔ i < 70 ∧ i < n := fun i => by omega
  clear hrb
  go_enter Tryd.func64, Tryd.ntmps64
  go_wp2_with fail
  refine (bitsC a _).mono ?_
  rintro e w1 ⟨g, cap, rfl, hcap, hmx, hg, hs, hc, hb⟩
  have HC0 := Lib.hid hc; have HB0 := Lib.hid hb
  clear hc hb
  go_wp2_with fail
  go_loopw [3, 10, 11] (fun vc vb vi wr => ∃ (i g cap : Nat), i ≤ min (n) 70 ∧ vi = .int .u32 i ∧ vc = .bool (shC 1 a i c) ∧ vb = .slice (some ⟨g, 0, none⟩) 32 cap ∧ 32 ≤ cap ∧ cap ≤ maxLen ∧ g < wr.heap.size ∧ Hid (∀ j, j < 32 → wr.cell? ⟨g, j, none⟩ = some (.bool ((shV 1 a i).getLsbD j))) ∧ Hid (Below w.heap.size w wr)) (fun _ _ vi _ => 70 - (intOf vi).toNat)
  case atStart => exact ⟨0, g, cap, by omega, rfl, congrArg Value.bool HS0.out.symm, rfl, hcap, hmx, hs, Lib.hid fun j hj => by rw [show shV 1 a 0 = a from HZ.out]; exact HC0.out j hj, HB0⟩
  case round =>
    clear hcap hmx hs HC0 HB0 hg
    obtain ⟨i, g, cap, hi, rfl, rfl, rfl, hcap, hmx, hg, HX, HB⟩ := hrel
    by_cases hlt : i < min (n) 70
    · have hS := HS.out i
      have hC := HC.out i c
      have hXX := HX.out
      have hi70 := (HN i).1 hlt
      have hiN : (i : Int) < (n : Int) := by omega
      have hi7 : (i : Int) < 70 := by omega
      have hx : ∃ x : BitVec 32, shV 1 a i = x := ⟨_, rfl⟩
      obtain ⟨x, hx⟩ := hx
      rw [show shV (1 : Nat) a i = x from hx] at hS hC
      rw [hx] at hXX
      have x0 := hXX 0 (by decide); have x31 := hXX 31 (by decide)
      have HS1 := Lib.hid hS; have HC1 := Lib.hid hC; have HX1 := Lib.hid (Nw.start (k := 1) hg hXX)
      have HLT := Lib.hid hlt
      clear hS hC hXX hx HX hi hi70 hlt HN
      go_wp2_with fail
      generalize wr = wo at *
      go_loopw [13] (fun vj wr => ∃ j : Nat, j ≤ 32 ∧ vj = .int .i64 j ∧ Hid (Nw wo g 1 x j wr)) (fun vj _ => 32 - (intOf vj).toNat)
      case atStart => exact ⟨0, by omega, rfl, HX1⟩
      case round =>
        clear HX1 x0 x31
        obtain ⟨j, hj, rfl, HW⟩ := hrel
        by_cases hj32 : j < 32
        · obtain ⟨b0, hG⟩ := HW.out.cellG j hj32
          have hF := HW.out.blk.frozen j
          by_cases hj31 : j < 31
          · have hO := HW.out.old (j + 1) (by omega)
            have hnb : nbi 1 x j = x.getLsbD (j + 1) := by unfold nbi; simp [hj31]
            have hj3 : (j : Int) < 31 := by omega
            generalize x.getLsbD (j + 1) = b at *
            have HNB := Lib.hid hnb
            clear hnb
            go_wp2_with fail
            go_roundw
            case rel => exact ⟨j + 1, by omega, by go_num, Lib.hid (HW.out.next _ HNB.out)⟩
            case measure => simp [intOf]; omega
          · obtain rfl : j = 31 := by omega
            go_wp2_with fail
            go_roundw
            case rel => exact ⟨32, by omega, rfl, Lib.hid (HW.out.stay (by simp [nbi]))⟩
            case measure => simp [intOf]
        · obtain rfl : j = 32 := by omega
          have x0 := HW.out.old 0 (by decide); have x31 := HW.out.old 31 (by decide)
          obtain ⟨b0, hG⟩ := HW.out.cellG 31 (by decide)
          have hF := HW.out.blk.frozen 31
          have hsz := HW.out.ext.size
          have hbits := HW.out
          have HBB := Lib.hid (HB.out.trans (HW.out.ext.mono HB.out.size))
          have HFIN := Lib.hid (HW.out.fin (by decide) (HS1.out))
          have hlt2 : wo.heap.size < wr.heap.size := HW.out.blk.lt
          have hcc : shC 1 a (i + 1) c = x.getLsbD 0 := HC1.out
          clear hbits hsz
          have HCC := Lib.hid hcc
          clear hcc
          go_wp2_with fail
          go_roundw
          case rel => exact ⟨i + 1, wo.heap.size, 32, by have := HLT.out; omega, by go_num, congrArg Value.bool HCC.out.symm, rfl, by decide, by decide, hlt2, HFIN, HBB⟩
          case measure => simp [intOf]; omega
    · have hiN : min (n) 70 = i := by omega
      have hi2 : (i = 70 ∧ 70 < n) ∨ (i ≤ 70 ∧ i = n) := by omega
      obtain ⟨y, hy⟩ : ∃ y, shV 1 a i = y := ⟨_, rfl⟩
      obtain ⟨cc, hcc⟩ : ∃ cc, shC 1 a i c = cc := ⟨_, rfl⟩
      rw [hcc]
      rw [hy] at HX
      have HY := Lib.hid hy; have HCC := Lib.hid hcc
      clear hy hcc
      have hw := wordC y g cap wr hcap HX.out
      have HWW := Lib.hid hw
      have HI := Lib.hid hiN
      clear hw hiN hlt hi HN
      rcases hi2 with ⟨h1, h2⟩ | ⟨h1, h2⟩
      · have h3 : decide ((i : Int) < 70) = false := by simp; omega
        have h4 : i < n := by omega
        clear h1 h2
        go_wp2_with fail
        refine HWW.out.mono ?_
        rintro e w' ⟨rfl, rfl⟩
        go_wp2_with fail
        go_ret2
        exact ⟨by rw [HI.out, HY.out, HCC.out]; rfl, HB.out⟩
      · have h3 : decide (i < n) = false := by simp; omega
        clear h2
        go_wp2_with fail
        refine HWW.out.mono ?_
        rintro e w' ⟨rfl, rfl⟩
        go_wp2_with fail
        go_ret2
        exact ⟨by rw [HI.out, HY.out, HCC.out]; rfl, HB.out⟩
set_option maxRecDepth 100000 in
set_option maxHeartbeats 1500000 in
theorem rsh2 (a : BitVec 32) (n : Nat) (hn : n < 4294967296) (c : Bool) (w : World) :
    Calls Tryd.prog 64 #[.int .i64 2, u a, .int .u32 n, .bool c] w (ShEnd (shV 2 a n) (shC 2 a n c) w) := by
  obtain ⟨e1, e2⟩ := sh_rby 2 (by decide) a n c
  have e1' : shV (2 : Int) a (min (rby 2 n) 70) = shV (2 : Int) a n := e1
  have e2' : shC (2 : Int) a (min (rby 2 n) 70) c = shC (2 : Int) a n c := e2
  rw [← e1', ← e2']
  have hz := shV_zero 2 (by decide) a
  have hs0 : shC 2 a 0 c = c := by unfold shC; rw [if_neg (by omega), if_pos rfl]
  have hS := sh_succ 2 (by decide) a
  have hC := shc_succ 2 (by decide) a
  have hmk := mk32
  have HZ := Lib.hid hz; have HS0 := Lib.hid hs0; have HS := Lib.hid hS; have HC := Lib.hid hC
  clear e1 e2 e1' e2' hz hs0 hS hC
  have hrb : rby 2 n = n := by unfold rby; rw [if_neg (by omega)]
  rw [hrb]
  have HN : ∀ i : Nat, i < min (n) 70 ↔ i < 70 ∧ i < n := fun i => by omega
  clear hrb
  go_enter Tryd.func64, Tryd.ntmps64
  go_wp2_with fail
  refine (bitsC a _).mono ?_
  rintro e w1 ⟨g, cap, rfl, hcap, hmx, hg, hs, hc, hb⟩
  have HC0 := Lib.hid hc; have HB0 := Lib.hid hb
  clear hc hb
  go_wp2_with fail
  go_loopw [3, 10, 11] (fun vc vb vi wr => ∃ (i g cap : Nat), i ≤ min (n) 70 ∧ vi = .int .u32 i ∧ vc = .bool (shC 2 a i c) ∧ vb = .slice (some ⟨g, 0, none⟩) 32 cap ∧ 32 ≤ cap ∧ cap ≤ maxLen ∧ g < wr.heap.size ∧ Hid (∀ j, j < 32 → wr.cell? ⟨g, j, none⟩ = some (.bool ((shV 2 a i).getLsbD j))) ∧ Hid (Below w.heap.size w wr)) (fun _ _ vi _ => 70 - (intOf vi).toNat)
  case atStart => exact ⟨0, g, cap, by omega, rfl, congrArg Value.bool HS0.out.symm, rfl, hcap, hmx, hs, Lib.hid fun j hj => by rw [show shV 2 a 0 = a from HZ.out]; exact HC0.out j hj, HB0⟩
  case round =>
    clear hcap hmx hs HC0 HB0 hg
    obtain ⟨i, g, cap, hi, rfl, rfl, rfl, hcap, hmx, hg, HX, HB⟩ := hrel
    by_cases hlt : i < min (n) 70
    · have hS := HS.out i
      have hC := HC.out i c
      have hXX := HX.out
      have hi70 := (HN i).1 hlt
      have hiN : (i : Int) < (n : Int) := by omega
      have hi7 : (i : Int) < 70 := by omega
      have hx : ∃ x : BitVec 32, shV 2 a i = x := ⟨_, rfl⟩
      obtain ⟨x, hx⟩ := hx
      rw [show shV (2 : Nat) a i = x from hx] at hS hC
      rw [hx] at hXX
      have x0 := hXX 0 (by decide); have x31 := hXX 31 (by decide)
      have HS1 := Lib.hid hS; have HC1 := Lib.hid hC; have HX1 := Lib.hid (Nw.start (k := 2) hg hXX)
      have HLT := Lib.hid hlt
      clear hS hC hXX hx HX hi hi70 hlt HN
      go_wp2_with fail
      generalize wr = wo at *
      go_loopw [13] (fun vj wr => ∃ j : Nat, j ≤ 32 ∧ vj = .int .i64 j ∧ Hid (Nw wo g 2 x j wr)) (fun vj _ => 32 - (intOf vj).toNat)
      case atStart => exact ⟨0, by omega, rfl, HX1⟩
      case round =>
        clear HX1 x0 x31
        obtain ⟨j, hj, rfl, HW⟩ := hrel
        by_cases hj32 : j < 32
        · obtain ⟨b0, hG⟩ := HW.out.cellG j hj32
          have hF := HW.out.blk.frozen j
          by_cases hj31 : j < 31
          · have hO := HW.out.old (j + 1) (by omega)
            have hnb : nbi 2 x j = x.getLsbD (j + 1) := by unfold nbi; simp [hj31]
            have hj3 : (j : Int) < 31 := by omega
            generalize x.getLsbD (j + 1) = b at *
            have HNB := Lib.hid hnb
            clear hnb
            go_wp2_with fail
            go_roundw
            case rel => exact ⟨j + 1, by omega, by go_num, Lib.hid (HW.out.next _ HNB.out)⟩
            case measure => simp [intOf]; omega
          · obtain rfl : j = 31 := by omega
            go_wp2_with fail
            go_roundw
            case rel => exact ⟨32, by omega, rfl, Lib.hid (HW.out.stay (by simp [nbi]))⟩
            case measure => simp [intOf]
        · obtain rfl : j = 32 := by omega
          have x0 := HW.out.old 0 (by decide); have x31 := HW.out.old 31 (by decide)
          obtain ⟨b0, hG⟩ := HW.out.cellG 31 (by decide)
          have hF := HW.out.blk.frozen 31
          have hsz := HW.out.ext.size
          have hbits := HW.out
          have HBB := Lib.hid (HB.out.trans (HW.out.ext.mono HB.out.size))
          have HFIN := Lib.hid (HW.out.fin2 (x.getLsbD 31) (by simp [nb]) (HS1.out))
          have hlt2 : wo.heap.size < wr.heap.size := HW.out.blk.lt
          have hcc : shC 2 a (i + 1) c = x.getLsbD 0 := HC1.out
          have HB3 := Lib.hid (show Below w.heap.size w (wr.setCell ⟨wo.heap.size, 31, none⟩ (.bool (x.getLsbD 31))) from HBB.out.setCell (p := ⟨wo.heap.size, 31, none⟩) HB.out.size _)
          clear hbits hsz
          have HCC := Lib.hid hcc
          clear hcc
          go_wp2_with fail
          go_roundw
          case rel => exact ⟨i + 1, wo.heap.size, 32, by have := HLT.out; omega, by go_num, congrArg Value.bool HCC.out.symm, rfl, by decide, by decide, by simpa using hlt2, HFIN, HB3⟩
          case measure => simp [intOf]; omega
    · have hiN : min (n) 70 = i := by omega
      have hi2 : (i = 70 ∧ 70 < n) ∨ (i ≤ 70 ∧ i = n) := by omega
      obtain ⟨y, hy⟩ : ∃ y, shV 2 a i = y := ⟨_, rfl⟩
      obtain ⟨cc, hcc⟩ : ∃ cc, shC 2 a i c = cc := ⟨_, rfl⟩
      rw [hcc]
      rw [hy] at HX
      have HY := Lib.hid hy; have HCC := Lib.hid hcc
      clear hy hcc
      have hw := wordC y g cap wr hcap HX.out
      have HWW := Lib.hid hw
      have HI := Lib.hid hiN
      clear hw hiN hlt hi HN
      rcases hi2 with ⟨h1, h2⟩ | ⟨h1, h2⟩
      · have h3 : decide ((i : Int) < 70) = false := by simp; omega
        have h4 : i < n := by omega
        clear h1 h2
        go_wp2_with fail
        refine HWW.out.mono ?_
        rintro e w' ⟨rfl, rfl⟩
        go_wp2_with fail
        go_ret2
        exact ⟨by rw [HI.out, HY.out, HCC.out]; rfl, HB.out⟩
      · have h3 : decide (i < n) = false := by simp; omega
        clear h2
        go_wp2_with fail
        refine HWW.out.mono ?_
        rintro e w' ⟨rfl, rfl⟩
        go_wp2_with fail
        go_ret2
        exact ⟨by rw [HI.out, HY.out, HCC.out]; rfl, HB.out⟩
set_option maxRecDepth 100000 in
set_option maxHeartbeats 1500000 in
theorem rsh3 (a : BitVec 32) (n : Nat) (hn : n < 4294967296) (c : Bool) (h64 : n ≤ 64) (w : World) :
    Calls Tryd.prog 64 #[.int .i64 3, u a, .int .u32 n, .bool c] w (ShEnd (shV 3 a n) (shC 3 a n c) w) := by
  obtain ⟨e1, e2⟩ := sh_rby 3 (by decide) a n c
  have e1' : shV (3 : Int) a (min (rby 3 n) 70) = shV (3 : Int) a n := e1
  have e2' : shC (3 : Int) a (min (rby 3 n) 70) c = shC (3 : Int) a n c := e2
  rw [← e1', ← e2']
  have hz := shV_zero 3 (by decide) a
  have hs0 : shC 3 a 0 c = c := by unfold shC; rw [if_neg (by omega), if_pos rfl]
  have hS := sh_succ 3 (by decide) a
  have hC := shc_succ 3 (by decide) a
  have hmk := mk32
  have HZ := Lib.hid hz; have HS0 := Lib.hid hs0; have HS := Lib.hid hS; have HC := Lib.hid hC
  clear e1 e2 e1' e2' hz hs0 hS hC
  have hrb : rby 3 n = n := by unfold rby; rw [if_neg (by omega)]
  rw [hrb]
  have HN : ∀ i : Nat, i < min (n) 70 ↔ i < 70 ∧ i < n := fun i => by omega
  clear hrb
  have hn64 : decide ((64 : Int) < (n : Int)) = false := by simp; omega
  go_enter Tryd.func64, Tryd.ntmps64
  go_wp2_with fail
  refine (bitsC a _).mono ?_
  rintro e w1 ⟨g, cap, rfl, hcap, hmx, hg, hs, hc, hb⟩
  have HC0 := Lib.hid hc; have HB0 := Lib.hid hb
  clear hc hb
  go_wp2_with fail
  go_loopw [3, 10, 11] (fun vc vb vi wr => ∃ (i g cap : Nat), i ≤ min (n) 70 ∧ vi = .int .u32 i ∧ vc = .bool (shC 3 a i c) ∧ vb = .slice (some ⟨g, 0, none⟩) 32 cap ∧ 32 ≤ cap ∧ cap ≤ maxLen ∧ g < wr.heap.size ∧ Hid (∀ j, j < 32 → wr.cell? ⟨g, j, none⟩ = some (.bool ((shV 3 a i).getLsbD j))) ∧ Hid (Below w.heap.size w wr)) (fun _ _ vi _ => 70 - (intOf vi).toNat)
  case atStart => exact ⟨0, g, cap, by omega, rfl, congrArg Value.bool HS0.out.symm, rfl, hcap, hmx, hs, Lib.hid fun j hj => by rw [show shV 3 a 0 = a from HZ.out]; exact HC0.out j hj, HB0⟩
  case round =>
    clear hcap hmx hs HC0 HB0 hg
    obtain ⟨i, g, cap, hi, rfl, rfl, rfl, hcap, hmx, hg, HX, HB⟩ := hrel
    by_cases hlt : i < min (n) 70
    · have hS := HS.out i
      have hC := HC.out i c
      have hXX := HX.out
      have hi70 := (HN i).1 hlt
      have hiN : (i : Int) < (n : Int) := by omega
      have hi7 : (i : Int) < 70 := by omega
      have hx : ∃ x : BitVec 32, shV 3 a i = x := ⟨_, rfl⟩
      obtain ⟨x, hx⟩ := hx
      rw [show shV (3 : Nat) a i = x from hx] at hS hC
      rw [hx] at hXX
      have x0 := hXX 0 (by decide); have x31 := hXX 31 (by decide)
      have HS1 := Lib.hid hS; have HC1 := Lib.hid hC; have HX1 := Lib.hid (Nw.start (k := 3) hg hXX)
      have HLT := Lib.hid hlt
      clear hS hC hXX hx HX hi hi70 hlt HN
      go_wp2_with fail
      generalize wr = wo at *
      go_loopw [13] (fun vj wr => ∃ j : Nat, j ≤ 32 ∧ vj = .int .i64 j ∧ Hid (Nw wo g 3 x j wr)) (fun vj _ => 32 - (intOf vj).toNat)
      case atStart => exact ⟨0, by omega, rfl, HX1⟩
      case round =>
        clear HX1 x0 x31
        obtain ⟨j, hj, rfl, HW⟩ := hrel
        by_cases hj32 : j < 32
        · obtain ⟨b0, hG⟩ := HW.out.cellG j hj32
          have hF := HW.out.blk.frozen j
          by_cases hj31 : j < 31
          · have hO := HW.out.old (j + 1) (by omega)
            have hnb : nbi 3 x j = x.getLsbD (j + 1) := by unfold nbi; simp [hj31]
            have hj3 : (j : Int) < 31 := by omega
            generalize x.getLsbD (j + 1) = b at *
            have HNB := Lib.hid hnb
            clear hnb
            go_wp2_with fail
            go_roundw
            case rel => exact ⟨j + 1, by omega, by go_num, Lib.hid (HW.out.next _ HNB.out)⟩
            case measure => simp [intOf]; omega
          · obtain rfl : j = 31 := by omega
            go_wp2_with fail
            go_roundw
            case rel => exact ⟨32, by omega, rfl, Lib.hid (HW.out.stay (by simp [nbi]))⟩
            case measure => simp [intOf]
        · obtain rfl : j = 32 := by omega
          have x0 := HW.out.old 0 (by decide); have x31 := HW.out.old 31 (by decide)
          obtain ⟨b0, hG⟩ := HW.out.cellG 31 (by decide)
          have hF := HW.out.blk.frozen 31
          have hsz := HW.out.ext.size
          have hbits := HW.out
          have HBB := Lib.hid (HB.out.trans (HW.out.ext.mono HB.out.size))
          have HFIN := Lib.hid (HW.out.fin2 (x.getLsbD 0) (by simp [nb]) (HS1.out))
          have hlt2 : wo.heap.size < wr.heap.size := HW.out.blk.lt
          have hcc : shC 3 a (i + 1) c = x.getLsbD 0 := HC1.out
          have HB3 := Lib.hid (show Below w.heap.size w (wr.setCell ⟨wo.heap.size, 31, none⟩ (.bool (x.getLsbD 0))) from HBB.out.setCell (p := ⟨wo.heap.size, 31, none⟩) HB.out.size _)
          clear hbits hsz
          have HCC := Lib.hid hcc
          clear hcc
          go_wp2_with fail
          go_roundw
          case rel => exact ⟨i + 1, wo.heap.size, 32, by have := HLT.out; omega, by go_num, congrArg Value.bool HCC.out.symm, rfl, by decide, by decide, by simpa using hlt2, HFIN, HB3⟩
          case measure => simp [intOf]; omega
    · have hiN : min (n) 70 = i := by omega
      have hi2 : (i = 70 ∧ 70 < n) ∨ (i ≤ 70 ∧ i = n) := by omega
      obtain ⟨y, hy⟩ : ∃ y, shV 3 a i = y := ⟨_, rfl⟩
      obtain ⟨cc, hcc⟩ : ∃ cc, shC 3 a i c = cc := ⟨_, rfl⟩
      rw [hcc]
      rw [hy] at HX
      have HY := Lib.hid hy; have HCC := Lib.hid hcc
      clear hy hcc
      have hw := wordC y g cap wr hcap HX.out
      have HWW := Lib.hid hw
      have HI := Lib.hid hiN
      clear hw hiN hlt hi HN
      rcases hi2 with ⟨h1, h2⟩ | ⟨h1, h2⟩
      · have h3 : decide ((i : Int) < 70) = false := by simp; omega
        have h4 : i < n := by omega
        clear h1 h2
        go_wp2_with fail
        refine HWW.out.mono ?_
        rintro e w' ⟨rfl, rfl⟩
        go_wp2_with fail
        go_ret2
        exact ⟨by rw [HI.out, HY.out, HCC.out]; rfl, HB.out⟩
      · have h3 : decide (i < n) = false := by simp; omega
        clear h2
        go_wp2_with fail
        refine HWW.out.mono ?_
        rintro e w' ⟨rfl, rfl⟩
        go_wp2_with fail
        go_ret2
        exact ⟨by rw [HI.out, HY.out, HCC.out]; rfl, HB.out⟩
set_option maxRecDepth 100000 in
set_option maxHeartbeats 1500000 in
theorem rsh3b (a : BitVec 32) (n : Nat) (hn : n < 4294967296) (c : Bool) (h64 : 64 < n) (w : World) :
    Calls Tryd.prog 64 #[.int .i64 3, u a, .int .u32 n, .bool c] w (ShEnd (shV 3 a n) (shC 3 a n c) w) := by
  obtain ⟨e1, e2⟩ := sh_rby 3 (by decide) a n c
  have e1' : shV (3 : Int) a (min (rby 3 n) 70) = shV (3 : Int) a n := e1
  have e2' : shC (3 : Int) a (min (rby 3 n) 70) c = shC (3 : Int) a n c := e2
  rw [← e1', ← e2']
  have hz := shV_zero 3 (by decide) a
  have hs0 : shC 3 a 0 c = c := by unfold shC; rw [if_neg (by omega), if_pos rfl]
  have hS := sh_succ 3 (by decide) a
  have hC := shc_succ 3 (by decide) a
  have hmk := mk32
  have HZ := Lib.hid hz; have HS0 := Lib.hid hs0; have HS := Lib.hid hS; have HC := Lib.hid hC
  clear e1 e2 e1' e2' hz hs0 hS hC
  have hrb : rby 3 n = 32 + n % 32 := by unfold rby; rw [if_pos ⟨rfl, h64⟩]
  rw [hrb]
  have HN : ∀ i : Nat, i < min (32 + n % 32) 70 ↔ i < 70 ∧ i < 32 + n % 32 := fun i => by omega
  clear hrb
  have hn64 : (64 : Int) < (n : Int) := by omega
  go_enter Tryd.func64, Tryd.ntmps64
  go_wp2_with fail
  refine (bitsC a _).mono ?_
  rintro e w1 ⟨g, cap, rfl, hcap, hmx, hg, hs, hc, hb⟩
  have HC0 := Lib.hid hc; have HB0 := Lib.hid hb
  clear hc hb
  go_wp2_with fail
  go_loopw [3, 10, 11] (fun vc vb vi wr => ∃ (i g cap : Nat), i ≤ min (32 + n % 32) 70 ∧ vi = .int .u32 i ∧ vc = .bool (shC 3 a i c) ∧ vb = .slice (some ⟨g, 0, none⟩) 32 cap ∧ 32 ≤ cap ∧ cap ≤ maxLen ∧ g < wr.heap.size ∧ Hid (∀ j, j < 32 → wr.cell? ⟨g, j, none⟩ = some (.bool ((shV 3 a i).getLsbD j))) ∧ Hid (Below w.heap.size w wr)) (fun _ _ vi _ => 70 - (intOf vi).toNat)
  case atStart => exact ⟨0, g, cap, by omega, rfl, congrArg Value.bool HS0.out.symm, rfl, hcap, hmx, hs, Lib.hid fun j hj => by rw [show shV 3 a 0 = a from HZ.out]; exact HC0.out j hj, HB0⟩
  case round =>
    clear hcap hmx hs HC0 HB0 hg
    obtain ⟨i, g, cap, hi, rfl, rfl, rfl, hcap, hmx, hg, HX, HB⟩ := hrel
    by_cases hlt : i < min (32 + n % 32) 70
    · have hS := HS.out i
      have hC := HC.out i c
      have hXX := HX.out
      have hi70 := (HN i).1 hlt
      have hiN : (i : Int) < 32 + (n : Int) % 32 := by omega
      have hi7 : (i : Int) < 70 := by omega
      have hx : ∃ x : BitVec 32, shV 3 a i = x := ⟨_, rfl⟩
      obtain ⟨x, hx⟩ := hx
      rw [show shV (3 : Nat) a i = x from hx] at hS hC
      rw [hx] at hXX
      have x0 := hXX 0 (by decide); have x31 := hXX 31 (by decide)
      have HS1 := Lib.hid hS; have HC1 := Lib.hid hC; have HX1 := Lib.hid (Nw.start (k := 3) hg hXX)
      have HLT := Lib.hid hlt
      clear hS hC hXX hx HX hi hi70 hlt HN
      go_wp2_with fail
      generalize wr = wo at *
      go_loopw [13] (fun vj wr => ∃ j : Nat, j ≤ 32 ∧ vj = .int .i64 j ∧ Hid (Nw wo g 3 x j wr)) (fun vj _ => 32 - (intOf vj).toNat)
      case atStart => exact ⟨0, by omega, rfl, HX1⟩
      case round =>
        clear HX1 x0 x31
        obtain ⟨j, hj, rfl, HW⟩ := hrel
        by_cases hj32 : j < 32
        · obtain ⟨b0, hG⟩ := HW.out.cellG j hj32
          have hF := HW.out.blk.frozen j
          by_cases hj31 : j < 31
          · have hO := HW.out.old (j + 1) (by omega)
            have hnb : nbi 3 x j = x.getLsbD (j + 1) := by unfold nbi; simp [hj31]
            have hj3 : (j : Int) < 31 := by omega
            generalize x.getLsbD (j + 1) = b at *
            have HNB := Lib.hid hnb
            clear hnb
            go_wp2_with fail
            go_roundw
            case rel => exact ⟨j + 1, by omega, by go_num, Lib.hid (HW.out.next _ HNB.out)⟩
            case measure => simp [intOf]; omega
          · obtain rfl : j = 31 := by omega
            go_wp2_with fail
            go_roundw
            case rel => exact ⟨32, by omega, rfl, Lib.hid (HW.out.stay (by simp [nbi]))⟩
            case measure => simp [intOf]
        · obtain rfl : j = 32 := by omega
          have x0 := HW.out.old 0 (by decide); have x31 := HW.out.old 31 (by decide)
          obtain ⟨b0, hG⟩ := HW.out.cellG 31 (by decide)
          have hF := HW.out.blk.frozen 31
          have hsz := HW.out.ext.size
          have hbits := HW.out
          have HBB := Lib.hid (HB.out.trans (HW.out.ext.mono HB.out.size))
          have HFIN := Lib.hid (HW.out.fin2 (x.getLsbD 0) (by simp [nb]) (HS1.out))
          have hlt2 : wo.heap.size < wr.heap.size := HW.out.blk.lt
          have hcc : shC 3 a (i + 1) c = x.getLsbD 0 := HC1.out
          have HB3 := Lib.hid (show Below w.heap.size w (wr.setCell ⟨wo.heap.size, 31, none⟩ (.bool (x.getLsbD 0))) from HBB.out.setCell (p := ⟨wo.heap.size, 31, none⟩) HB.out.size _)
          clear hbits hsz
          have HCC := Lib.hid hcc
          clear hcc
          go_wp2_with fail
          go_roundw
          case rel => exact ⟨i + 1, wo.heap.size, 32, by have := HLT.out; omega, by go_num, congrArg Value.bool HCC.out.symm, rfl, by decide, by decide, by simpa using hlt2, HFIN, HB3⟩
          case measure => simp [intOf]; omega
    · have hiN : min (32 + n % 32) 70 = i := by omega
      have hi2 : (i = 70 ∧ 70 < 32 + n % 32) ∨ (i ≤ 70 ∧ i = 32 + n % 32) := by omega
      obtain ⟨y, hy⟩ : ∃ y, shV 3 a i = y := ⟨_, rfl⟩
      obtain ⟨cc, hcc⟩ : ∃ cc, shC 3 a i c = cc := ⟨_, rfl⟩
      rw [hcc]
      rw [hy] at HX
      have HY := Lib.hid hy; have HCC := Lib.hid hcc
      clear hy hcc
      have hw := wordC y g cap wr hcap HX.out
      have HWW := Lib.hid hw
      have HI := Lib.hid hiN
      clear hw hiN hlt hi HN
      rcases hi2 with ⟨h1, h2⟩ | ⟨h1, h2⟩
      · have h3 : decide ((i : Int) < 70) = false := by simp; omega
        have h4 : (i : Int) < 32 + (n : Int) % 32 := by omega
        clear h1 h2
        go_wp2_with fail
        refine HWW.out.mono ?_
        rintro e w' ⟨rfl, rfl⟩
        go_wp2_with fail
        go_ret2
        exact ⟨by rw [HI.out, HY.out, HCC.out]; rfl, HB.out⟩
      · have h3 : decide ((i : Int) < 32 + (n : Int) % 32) = false := by simp; omega
        clear h2
        go_wp2_with fail
        refine HWW.out.mono ?_
        rintro e w' ⟨rfl, rfl⟩
        go_wp2_with fail
        go_ret2
        exact ⟨by rw [HI.out, HY.out, HCC.out]; rfl, HB.out⟩
theorem rshift (k : Nat) (hk : k < 4) (a : BitVec 32) (n : Nat) (hn : n < 4294967296) (c : Bool) (w : World) :
    Calls Tryd.prog 64 #[.int .i64 k, u a, .int .u32 n, .bool c] w (ShEnd (shV k a n) (shC k a n c) w) := by
  have hr : k = 0 ∨ k = 1 ∨ k = 2 ∨ (k = 3 ∧ n ≤ 64) ∨ (k = 3 ∧ 64 < n) := by omega
  rcases hr with rfl | rfl | rfl | ⟨rfl, h64⟩ | ⟨rfl, h64⟩
  · exact rsh0 a n hn c w
  · exact rsh1 a n hn c w
  · exact rsh2 a n hn c w
  · exact rsh3 a n hn c h64 w
  · exact rsh3b a n hn c h64 w
end Go.Proofs.YtkafmpdjpjgkgaaDoor.Co
