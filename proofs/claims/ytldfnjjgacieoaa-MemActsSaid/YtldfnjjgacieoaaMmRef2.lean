/- DERIVED. Contracts of the reference's Store, Fetch, Same. By an AI agent. -/
import Derived.Test.YtldfnjjgacieoaaMmRef
namespace Go.Proofs.Ytldfnjjgacieoaa.MmR
open Go.ChangeShapes Go.WideShapes Go.ChangeAt Go.RowKit Args Mm
set_option linter.unusedVariables false
def StEnd (n0 : Nat) (h : Hd) (s : St) (a u : Int) (w : World) (e : Ending) (w' : World) : Prop := e = .returned (.int .i64 (storeE s a)) ∧ RP n0 h (storeS s a u) w' ∧ Upd h.X w w'
section
variable (n0 : Nat) (h : Hd) (s : St) (w : World)
theorem plc_yes {a : Int} (a0 : 0 ≤ a) (a1 : a < 4294967296) {n : Nat} (hn : n ≤ 16000) (h : plcB a 536870912 4 n = true) : ∃ i : Nat, i < n ∧ a = 536870912 + 4 * i ∧ (far a 536870912 / 4).toNat = i := by
  unfold plcB at h
  simp only [Bool.and_eq_true, decide_eq_true_eq] at h
  by_cases hg : 536870912 ≤ a
  · have e := far_ge hg a1 (by omega)
    rw [e] at h ⊢
    exact ⟨((a - 536870912) / 4).toNat, by omega, by omega, by omega⟩
  · have e := far_lt (show a < 536870912 by omega) a0 (by omega)
    rw [e] at h
    omega
theorem plc_nos {a : Int} (a0 : 0 ≤ a) (a1 : a < 4294967296) {n : Nat} (h : plcB a 536870912 4 n = false) : a % 4 ≠ 0 ∨ (a % 4 = 0 ∧ a < 536870912) ∨ (a % 4 = 0 ∧ 536870912 ≤ a ∧ (n : Int) ≤ (a - 536870912) / 4) := by
  by_cases h4 : a % 4 = 0
  · by_cases hg : a < 536870912
    · exact .inr (.inl ⟨h4, hg⟩)
    · have e := far_ge (show 536870912 ≤ a by omega) a1 (by omega)
      unfold plcB at h
      rw [e] at h
      simp at h
      exact .inr (.inr ⟨h4, by omega, h (by omega)⟩)
  · exact .inl h4
set_option maxHeartbeats 4000000 in
set_option maxRecDepth 100000 in
theorem store (a u : Int) (a0 : 0 ≤ a) (a1 : a < 4294967296) (hu : 0 ≤ u ∧ u < 4294967296) (p : RP n0 h s w) : Calls Try.prog 14 #[ptr h.r, .int .u32 a, .int .u32 u] w (StEnd n0 h s a u w) := by
  have c1 : w.cell? ⟨h.r, 1, none⟩ = some (.slice h.AW s.W.length h.cW) := p.blk.cell 1
  have hwl := p.fit.wl
  cases hb : plcB a 536870912 4 s.W.length with
  | true =>
    obtain ⟨i, hi, ha, hq⟩ := plc_yes a0 a1 hwl hb
    have e1 : storeE s a = 0 := by unfold storeE; rw [if_pos hb]
    have e2 : storeS s a u = { s with W := s.W.set i u, b := u } := by unfold storeS; rw [if_pos hb, hq]
    obtain ⟨g, hg, hc, hfz⟩ := p.cellW hi
    have hgr : g ≠ h.r := fun e => p.rW (by rw [← e]; exact hg)
    have hend : ∀ w1 : World, RP n0 h { s with W := s.W.set i u, b := u } w1 → Upd h.X w w1 → StEnd n0 h s a u w (.returned (.int .i64 0)) w1 := fun w1 h1 h2 => ⟨by rw [e1], by rw [e2]; exact h1, h2⟩
    obtain ⟨p2, u2⟩ := p.word hg i u hu
    have hfit := p.fit.storeS a hu
    rw [e2] at hfit
    rw [hg] at c1
    have c4 : w.cell? ⟨h.r, 4, none⟩ = some (.int .u32 s.b) := p.blk.cell 4
    have f4 := p.blk.frozen 4
    generalize s.W.getD i 0 = z at *
    have HE := Lib.hid hend; have HP2 := Lib.hid p2; have HU2 := Lib.hid u2; have HF := Lib.hid hfit
    have o1 : (a % 4 != 0) = false := by simp; omega
    have hge : decide (a < (536870912 : Int)) = false := by simp; omega
    have hw1 : IntKind.u32.wrap (a - 536870912) = 4 * (i : Int) := by show (a - 536870912) % 4294967296 = _; omega
    have hw2 : (4 * (i : Int)) / 4 = (i : Int) := by omega
    have hil2 : (i : Int) < (s.W.length : Int) := by omega
    have hil3 : (s.W.length : Int) ≤ 16000 := by omega
    clear p hg e1 e2 hend p2 u2 hfit hb ha hq hwl a1
    generalize s.W.length = nW at *
    go_enter Try.func14, Try.ntmps14
    go_wp2_with fail
    go_ret
    have hu3 : Upd (· = h.r) (w.setCell ⟨g, i, none⟩ (.int .u32 u)) ((w.setCell ⟨g, i, none⟩ (.int .u32 u)).setCell ⟨h.r, 4, none⟩ (.int .u32 u)) := (Upd.refl (· = h.r) _).setCell (p := ⟨h.r, 4, none⟩) (fun _ => rfl) _
    exact HE.out _ (HP2.out.nums (s' := { s with W := s.W.set i u, b := u }) rfl rfl rfl HF.out (HP2.out.blk.set 4 _) hu3) (HU2.out.trans (hu3.mono fun k e => .inl e))
  | false =>
    have e1 : storeE s a = 50 := by unfold storeE; rw [if_neg (by simp [hb])]
    have e2 : storeS s a u = s := by unfold storeS; rw [if_neg (by simp [hb])]
    have hend : StEnd n0 h s a u w (.returned (.int .i64 50)) w := ⟨by rw [e1], by rw [e2]; exact p, Upd.refl _ _⟩
    have HE := Lib.hid hend
    rcases plc_nos a0 a1 hb with h4 | ⟨h4, hl⟩ | ⟨h4, hg, hq⟩
    · have o1 : (a % 4 != 0) = true := by simp [h4]
      clear p e1 e2 hend h4 hb hwl a1
      go_enter Try.func14, Try.ntmps14
      go_wp2_with fail
      go_ret
      exact HE.out
    · have o1 : (a % 4 != 0) = false := by simp [h4]
      have hge : decide (a < (536870912 : Int)) = true := by simp; omega
      clear p e1 e2 hend h4 hb hwl a1 hl
      go_enter Try.func14, Try.ntmps14
      go_wp2_with fail
      go_ret
      exact HE.out
    · have o1 : (a % 4 != 0) = false := by simp [h4]
      have hge : decide (a < (536870912 : Int)) = false := by simp; omega
      obtain ⟨q, hq0⟩ : ∃ q : Nat, a - 536870912 = q := ⟨(a - 536870912).toNat, by omega⟩
      have hw1 : IntKind.u32.wrap (a - 536870912) = (q : Int) := by show (a - 536870912) % 4294967296 = _; omega
      have hsq : (s.W.length : Int) ≤ (q : Int) / 4 := by omega
      have hqn : q / 4 < 1073741824 := by omega
      clear p e1 e2 hend h4 hb hwl a1 hg hq hq0
      go_enter Try.func14, Try.ntmps14
      go_wp2_with fail
      go_ret
      exact HE.out
set_option maxHeartbeats 4000000 in
theorem fetch (a : Int) (a0 : 0 ≤ a) (a1 : a < 4294967296) (p : RP n0 h s w) : Calls Try.prog 16 #[ptr h.r, .int .u32 a] w (Qt (.tuple #[.int .u16 (fetchV s a).1, .int .i64 (fetchV s a).2]) w) := by
  have c0 : w.cell? ⟨h.r, 0, none⟩ = some (.slice h.AC s.C.length h.cC) := p.blk.cell 0
  have hcl := p.fit.cl
  have ef : far a 0 = a := by unfold far; omega
  by_cases h2 : a % 2 = 0
  · have o1 : (a % 2 != 0) = false := by simp [h2]
    obtain ⟨i, hi⟩ : ∃ i : Nat, a = 2 * i := ⟨(a / 2).toNat, by omega⟩
    have hd : a / 2 = (i : Int) := by omega
    have hil3 : (s.C.length : Int) ≤ 60000 := by omega
    by_cases hlt : i < s.C.length
    · have hb : plcB a 0 2 s.C.length = true := by unfold plcB; rw [ef]; simp; omega
      have e : fetchV s a = (s.C.getD i 0, 0) := by unfold fetchV; rw [if_pos hb, ef, hd]; rfl
      rw [e]
      obtain ⟨g, hg, hc⟩ := p.cellC hlt
      rw [hg] at c0
      have hil2 : (i : Int) < (s.C.length : Int) := by omega
      generalize s.C.getD i 0 = z at *
      generalize s.C.length = nC at *
      generalize h.r = r at *
      clear p e hg hb ef hi h2 hlt hcl a1
      go_enter Try.func16, Try.ntmps16
      go_wp2_with fail
      go_ret2
      exact Qt.same _ _
    · have hb : plcB a 0 2 s.C.length = false := plc_no (.inr (by rw [ef]; omega))
      have e : fetchV s a = (0, 50) := by unfold fetchV; rw [if_neg (by simp [hb])]
      rw [e]
      have hil2 : (s.C.length : Int) ≤ (i : Int) := by omega
      have hi30 : i < 2147483648 := by omega
      clear p e hb ef hi h2 hlt hcl a1
      go_enter Try.func16, Try.ntmps16
      go_wp2_with fail
      go_ret2
      exact Qt.same _ _
  · have hb : plcB a 0 2 s.C.length = false := plc_no (.inl (by rw [ef]; omega))
    have e : fetchV s a = (0, 50) := by unfold fetchV; rw [if_neg (by simp [hb])]
    rw [e]
    have o1 : (a % 2 != 0) = true := by simp [h2]
    clear p e hb ef h2 hcl a1
    go_enter Try.func16, Try.ntmps16
    go_wp2_with fail
    go_ret2
    exact Qt.same _ _
end
set_option maxHeartbeats 2000000 in
theorem same (A B : Option Addr) (c d : Nat) (zs : List Int) (w : World) (hA : Lies w A (zs.map (.int .u32))) (hB : Lies w B (zs.map (.int .u32))) (hl : zs.length ≤ 100000) :
    Calls Try.prog 20 #[.slice A zs.length c, .slice B zs.length d] w fun e w' => e = .returned (.bool true) ∧ Below w.heap.size w w' := by
  have HA := Lib.hid hA; have HB := Lib.hid hB
  clear hA hB
  go_enter Try.func20, Try.ntmps20
  go_wp2_with fail
  go_loopw [5] (fun vi wr => ∃ k : Nat, k ≤ zs.length ∧ vi = .int .i64 k ∧ Hid (Below w.heap.size w wr)) (fun vi _ => zs.length - (intOf vi).toNat)
  case atStart => exact ⟨0, by omega, rfl, Lib.hid (Below.refl _ _)⟩
  case round =>
    obtain ⟨k, hk, rfl, HH⟩ := hrel
    by_cases hlt : k < zs.length
    · have f1 : (zs.map (Value.int .u32))[k]? = some (.int .u32 (zs[k]'hlt)) := by simp [List.getElem?_eq_getElem hlt]
      generalize zs[k]'hlt = z at f1
      obtain ⟨b, o, rfl, _, hc⟩ := (HA.out.below HH.out).at_ f1
      obtain ⟨b', o', rfl, _, hc'⟩ := (HB.out.below HH.out).at_ f1
      have e1 := hc _ _ f1
      have e2 := hc' _ _ f1
      clear hc hc' f1
      go_wp2_with fail
      go_quiet (fail)
      go_wp2_with fail
      go_roundw
      case rel => exact ⟨k + 1, by omega, by go_num, Lib.hid (HH.out.trans (Below.mono (show Ext _ _ from Upd.below (upd_drewN (fun _ => False) wr nq) (Nat.le_refl _) nofun) HH.out.size))⟩
      case measure => simp [intOf]; omega
    · go_wp2_with fail
      go_ret
      exact ⟨rfl, HH.out⟩
end Go.Proofs.Ytldfnjjgacieoaa.MmR
