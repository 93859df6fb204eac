/- DERIVED. RnRd, RnCy, RnCyr in one text. By an AI agent. -/
import Derived.Test.YtkafmpdjpjgkgaaDoorZ35
import Derived.Test.YtkafmpdjpjgkgaaDoorZ21
import Derived.Lib.QuietBelow
import Derived.BigRegion
import Derived.Test.YtkafmpdjpjgkgaaDoorZ30
import Derived.Test.YtkafmpdjpjgkgaaDoorZ12
import Derived.Test.YtkafmpdjpjgkgaaDoorZ34
/- DERIVED. The contracts of run's Road, and of the reference's. By an AI agent. -/
namespace Go.Proofs.YtkafmpdjpjgkgaaDoor.Rn
open Go.ChangeShapes Go.WideShapes Go.ChangeAt Go.RowKit WMath Word Args Mm Co Lk
set_option linter.unusedVariables false
set_option linter.unusedSimpArgs false
/-- Of the same road, leak by leak. -/
def roadB : List L → List L → Bool
  | [], [] => true
  | a :: xs, b :: ys => sameB a b && roadB xs ys
  | _, _ => false
theorem road_len : ∀ (xs ys : List L), xs.length ≠ ys.length → roadB xs ys = false
  | [], [], h => absurd rfl h
  | [], _ :: _, _ => rfl
  | _ :: _, [], _ => rfl
  | a :: xs, b :: ys, h => by
    unfold roadB
    rw [road_len xs ys (by simpa using h), Bool.and_false]
theorem road_self : ∀ (xs : List L), roadB xs xs = true
  | [] => rfl
  | a :: xs => by unfold roadB; rw [same_self, road_self xs]; rfl
theorem road_at : ∀ (xs ys : List L) (k : Nat) (a b : L), xs.length = ys.length → xs[k]? = some a → ys[k]? = some b → roadB (xs.drop k) (ys.drop k) = (sameB a b && roadB (xs.drop (k + 1)) (ys.drop (k + 1)))
  | [], _, k, a, b, _, h, _ => by simp at h
  | _, [], k, a, b, _, _, h => by simp at h
  | x :: xs, y :: ys, 0, a, b, _, h1, h2 => by
    have e1 : x = a := by simpa using h1
    have e2 : y = b := by simpa using h2
    subst e1 e2; rfl
  | x :: xs, y :: ys, k + 1, a, b, hl, h1, h2 => by
    have := road_at xs ys k a b (by simpa using hl) (by simpa using h1) (by simpa using h2)
    simpa using this
theorem road_end (xs ys : List L) (k : Nat) (hl : xs.length = ys.length) (hk : xs.length ≤ k) : roadB (xs.drop k) (ys.drop k) = true := by
  rw [List.drop_eq_nil_of_le hk, List.drop_eq_nil_of_le (by omega)]; rfl
set_option maxRecDepth 100000 in
set_option maxHeartbeats 4000000 in
theorem road (A B : Option Addr) (c d : Nat) (xs ys : List L) (w : World) (hA : Lies w A (xs.flatMap lcl)) (hB : Lies w B (ys.flatMap lcl)) (h1 : xs.length ≤ 100000) (h2 : ys.length ≤ 100000) :
    Calls Tryd.prog 15 #[.slice A xs.length c, .slice B ys.length d] w fun e w' => e = .returned (.bool (roadB xs ys)) ∧ Ext w w' := by
  by_cases hl : xs.length = ys.length
  · have HA := Lib.hid hA; have HB := Lib.hid hB; have HL := Lib.hid hl
    have HE := Lib.hid (road_end xs ys · hl); have HAT := Lib.hid (road_at xs ys · · · hl)
    have hr : roadB (xs.drop 0) (ys.drop 0) = roadB xs ys := rfl
    generalize roadB xs ys = r at *
    rw [← hl]
    have HR := Lib.hid hr
    clear hA hB hl hr
    go_enter Tryd.func15, Tryd.ntmps15
    go_wp2_with fail
    go_loopw [13] (fun vi wr => ∃ k : Nat, k ≤ xs.length ∧ vi = .int .i64 k ∧ Hid (Ext w wr ∧ roadB (xs.drop k) (ys.drop k) = r)) (fun vi _ => xs.length - (intOf vi).toNat)
    case atStart => exact ⟨0, by omega, rfl, Lib.hid ⟨Ext.refl _, HR.out⟩⟩
    case round =>
      obtain ⟨k, hk, rfl, HQ⟩ := hrel
      by_cases hlt : k < xs.length
      · obtain ⟨x, hx⟩ : ∃ x, xs[k]? = some x := ⟨_, List.getElem?_eq_getElem hlt⟩
        obtain ⟨y, hy⟩ : ∃ y, ys[k]? = some y := ⟨_, List.getElem?_eq_getElem (by have := HL.out; omega)⟩
        obtain ⟨b, o, rfl, _, a0, a1, a2, a3, a4, a5, a6, a7, a8, a9⟩ := leak_at (HQ.out.1.lies HA.out) hx
        obtain ⟨b', o', rfl, _, b0, b1, b2, b3, b4, b5, b6, b7, b8, b9⟩ := leak_at (HQ.out.1.lies HB.out) hy
        have hat := HAT.out k x y hx hy
        rw [HQ.out.2] at hat
        have HS := Lib.hid (fun w => Lk.same x y w)
        clear hx hy
        have ra0 := fun d os => cell_regrown a0 d os; have ra1 := fun d os => cell_regrown a1 d os; have ra2 := fun d os => cell_regrown a2 d os; have ra3 := fun d os => cell_regrown a3 d os; have ra4 := fun d os => cell_regrown a4 d os; have ra5 := fun d os => cell_regrown a5 d os; have ra6 := fun d os => cell_regrown a6 d os; have ra7 := fun d os => cell_regrown a7 d os; have ra8 := fun d os => cell_regrown a8 d os; have ra9 := fun d os => cell_regrown a9 d os
        have rb0 := fun d os => cell_regrown b0 d os; have rb1 := fun d os => cell_regrown b1 d os; have rb2 := fun d os => cell_regrown b2 d os; have rb3 := fun d os => cell_regrown b3 d os; have rb4 := fun d os => cell_regrown b4 d os; have rb5 := fun d os => cell_regrown b5 d os; have rb6 := fun d os => cell_regrown b6 d os; have rb7 := fun d os => cell_regrown b7 d os; have rb8 := fun d os => cell_regrown b8 d os; have rb9 := fun d os => cell_regrown b9 d os
        clear a0 a1 a2 a3 a4 a5 a6 a7 a8 a9 b0 b1 b2 b3 b4 b5 b6 b7 b8 b9
        generalize sameB x y = q at *
        have HATT := Lib.hid hat
        have hkl : (k : Int) < (xs.length : Int) := by omega
        have hk0 : (0 : Int) ≤ (k : Int) := by omega
        have hk9 : (k : Int) < 200000 := by omega
        clear hat
        cases q
        all_goals
          go_wp2_with fail
          refine wp_region_quiet_below (by kernel_rfl) (by kernel_rfl) ?_
          repeat (go_big_quiet_step ((go_at_call 23; with_reducible exact Calls.regrown_of (HS.out _))))
          refine wpQuiet_nil ?_
          intro _ hw'
          obtain ⟨⟨dq, osq⟩, hw''⟩ := hw'
          subst hw''
          have HX := Lib.hid (HQ.out.1.trans (below_regrown wr dq osq))
          clear ra0 ra1 ra2 ra3 ra4 ra5 ra6 ra7 ra8 ra9 rb0 rb1 rb2 rb3 rb4 rb5 rb6 rb7 rb8 rb9
          generalize Go.Sort.grow (redrawn wr dq) osq = wq at *
          go_wp2_with fail
        · go_ret
          exact ⟨by rw [HATT.out]; rfl, HX.out⟩
        · go_roundw
          case rel => exact ⟨k + 1, by omega, by go_num, Lib.hid ⟨HX.out, by rw [HATT.out]; rfl⟩⟩
          case measure => simp [intOf]; omega
      · have hrr := HE.out k (by omega)
        rw [HQ.out.2] at hrr
        subst hrr
        go_wp2_with fail
        go_ret
        exact ⟨rfl, HQ.out.1⟩
  · have hr := road_len xs ys hl
    rw [hr]
    have hl2 : ((xs.length : Int) != (ys.length : Int)) = true := by simp; omega
    have hl3 : ((xs.length : Int) == (ys.length : Int)) = false := by simp; omega
    clear hr hA hB
    go_enter Tryd.func15, Tryd.ntmps15
    go_wp2_with fail
    go_ret
    exact ⟨rfl, Ext.refl _⟩
set_option maxRecDepth 100000 in
set_option maxHeartbeats 4000000 in
theorem rroad (A B : Option Addr) (c d : Nat) (xs ys : List L) (w : World) (hA : Lies w A (xs.flatMap lcl)) (hB : Lies w B (ys.flatMap lcl)) (h1 : xs.length ≤ 100000) (h2 : ys.length ≤ 100000) :
    Calls Tryd.prog 16 #[.slice A xs.length c, .slice B ys.length d] w fun e w' => e = .returned (.bool (roadB xs ys)) ∧ Ext w w' := by
  by_cases hl : xs.length = ys.length
  · have HA := Lib.hid hA; have HB := Lib.hid hB; have HL := Lib.hid hl
    have HE := Lib.hid (road_end xs ys · hl); have HAT := Lib.hid (road_at xs ys · · · hl)
    have hr : roadB (xs.drop 0) (ys.drop 0) = roadB xs ys := rfl
    generalize roadB xs ys = r at *
    rw [← hl]
    have HR := Lib.hid hr
    clear hA hB hl hr
    go_enter Tryd.func16, Tryd.ntmps16
    go_wp2_with fail
    go_loopw [5] (fun vi wr => ∃ k : Nat, k ≤ xs.length ∧ vi = .int .i64 k ∧ Hid (Ext w wr ∧ roadB (xs.drop k) (ys.drop k) = r)) (fun vi _ => xs.length - (intOf vi).toNat)
    case atStart => exact ⟨0, by omega, rfl, Lib.hid ⟨Ext.refl _, HR.out⟩⟩
    case round =>
      obtain ⟨k, hk, rfl, HQ⟩ := hrel
      by_cases hlt : k < xs.length
      · obtain ⟨x, hx⟩ : ∃ x, xs[k]? = some x := ⟨_, List.getElem?_eq_getElem hlt⟩
        obtain ⟨y, hy⟩ : ∃ y, ys[k]? = some y := ⟨_, List.getElem?_eq_getElem (by have := HL.out; omega)⟩
        obtain ⟨b, o, rfl, _, a0, a1, a2, a3, a4, a5, a6, a7, a8, a9⟩ := leak_at (HQ.out.1.lies HA.out) hx
        obtain ⟨b', o', rfl, _, b0, b1, b2, b3, b4, b5, b6, b7, b8, b9⟩ := leak_at (HQ.out.1.lies HB.out) hy
        have hat := HAT.out k x y hx hy
        rw [HQ.out.2] at hat
        have HS := Lib.hid (fun w => Lk.control x y w)
        clear hx hy
        have ra0 := fun d os => cell_regrown a0 d os; have ra1 := fun d os => cell_regrown a1 d os; have ra2 := fun d os => cell_regrown a2 d os; have ra3 := fun d os => cell_regrown a3 d os; have ra4 := fun d os => cell_regrown a4 d os; have ra5 := fun d os => cell_regrown a5 d os; have ra6 := fun d os => cell_regrown a6 d os; have ra7 := fun d os => cell_regrown a7 d os; have ra8 := fun d os => cell_regrown a8 d os; have ra9 := fun d os => cell_regrown a9 d os
        have rb0 := fun d os => cell_regrown b0 d os; have rb1 := fun d os => cell_regrown b1 d os; have rb2 := fun d os => cell_regrown b2 d os; have rb3 := fun d os => cell_regrown b3 d os; have rb4 := fun d os => cell_regrown b4 d os; have rb5 := fun d os => cell_regrown b5 d os; have rb6 := fun d os => cell_regrown b6 d os; have rb7 := fun d os => cell_regrown b7 d os; have rb8 := fun d os => cell_regrown b8 d os; have rb9 := fun d os => cell_regrown b9 d os
        clear a0 a1 a2 a3 a4 a5 a6 a7 a8 a9 b0 b1 b2 b3 b4 b5 b6 b7 b8 b9
        generalize sameB x y = q at *
        have HATT := Lib.hid hat
        have hkl : (k : Int) < (xs.length : Int) := by omega
        have hk0 : (0 : Int) ≤ (k : Int) := by omega
        have hk9 : (k : Int) < 200000 := by omega
        clear hat
        cases q
        all_goals
          go_wp2_with fail
          refine wp_region_quiet_below (by kernel_rfl) (by kernel_rfl) ?_
          repeat (go_big_quiet_step ((go_at_call 24; with_reducible exact Calls.regrown_of (HS.out _))))
          refine wpQuiet_nil ?_
          intro _ hw'
          obtain ⟨⟨dq, osq⟩, hw''⟩ := hw'
          subst hw''
          have HX := Lib.hid (HQ.out.1.trans (below_regrown wr dq osq))
          clear ra0 ra1 ra2 ra3 ra4 ra5 ra6 ra7 ra8 ra9 rb0 rb1 rb2 rb3 rb4 rb5 rb6 rb7 rb8 rb9
          generalize Go.Sort.grow (redrawn wr dq) osq = wq at *
          go_wp2_with fail
        · go_ret
          exact ⟨by rw [HATT.out]; rfl, HX.out⟩
        · go_roundw
          case rel => exact ⟨k + 1, by omega, by go_num, Lib.hid ⟨HX.out, by rw [HATT.out]; rfl⟩⟩
          case measure => simp [intOf]; omega
      · have hrr := HE.out k (by omega)
        rw [HQ.out.2] at hrr
        subst hrr
        go_wp2_with fail
        go_ret
        exact ⟨rfl, HQ.out.1⟩
  · have hr := road_len xs ys hl
    rw [hr]
    have hl2 : ((xs.length : Int) != (ys.length : Int)) = true := by simp; omega
    have hl3 : ((xs.length : Int) == (ys.length : Int)) = false := by simp; omega
    clear hr hA hB
    go_enter Tryd.func16, Tryd.ntmps16
    go_wp2_with fail
    go_ret
    exact ⟨rfl, Ext.refl _⟩
end Go.Proofs.YtkafmpdjpjgkgaaDoor.Rn
/- DERIVED. The contracts of run's Cycles, and of the reference's. By an AI agent. -/
namespace Go.Proofs.YtkafmpdjpjgkgaaDoor.Rn
open Go.ChangeShapes Go.WideShapes Go.ChangeAt Go.RowKit WMath Word Args Mm Co Lk
set_option linter.unusedVariables false
set_option linter.unusedSimpArgs false
/-- A branch's halfword. -/
def brB (h : Nat) : Bool := (Tp.takeF 21 0 h).1 == 17 || (Tp.takeF 21 0 h).1 == 18
/-- Whether it goes elsewhere. -/
def offB (l : L) : Option L → Bool
  | none => false
  | some x => (x.pc.toNat : Int) != ((l.pc + 2#32).toNat : Int)
def cyc1 (l : L) (nx : Option L) : Nat := if l.me then 2 else if brB l.h && offB l nx then 3 else 1
def cycT (ls : List L) : Nat → Nat
  | 0 => 0
  | k + 1 => cycT ls k + cyc1 (ls.getD k zL) ls[k + 1]?
theorem cyc1_le (l : L) (nx : Option L) : cyc1 l nx ≤ 3 := by
  unfold cyc1
  split
  · omega
  · split <;> omega
theorem cycT_le (ls : List L) : ∀ k, cycT ls k ≤ 3 * k
  | 0 => Nat.le_refl _
  | k + 1 => by have := cycT_le ls k; have := cyc1_le (ls.getD k zL) ls[k + 1]?; show cycT ls k + _ ≤ _; omega
set_option maxRecDepth 100000 in
set_option maxHeartbeats 2000000 in
theorem branches (h : Nat) (hh : h < 65536) (w : World) (hT : Tp.Tb w) : Calls Tryd.prog 34 #[.int .u16 h] w fun e w' => e = .returned (.bool (brB h)) ∧ Below w.heap.size w w' := by
  have hC := Tp.takeP h hh w hT
  have hb : brB h = ((Tp.takeF 21 0 h).1 == 17 || (Tp.takeF 21 0 h).1 == 18) := rfl
  rcases hq : Tp.takeF 21 0 h with ⟨op, ⟨D, N, M, I⟩, er⟩
  rw [hq] at hC hb
  simp only at hb
  simp only [Tp.resV, Tp.insN] at hC
  have HC := Lib.hid hC
  clear hC hq hT
  by_cases h1 : op = 17
  · subst h1
    have HB := Lib.hid (show brB h = true from hb)
    clear hb
    go_enter Tryd.func34, Tryd.ntmps34
    go_wp2_with fail
    refine HC.out.mono ?_
    rintro e w1 ⟨rfl, hx⟩
    have HX := Lib.hid (show Ext w w1 from hx)
    clear hx
    go_wp2_with fail
    go_ret
    exact ⟨(congrArg (fun b => Ending.returned (Value.bool b)) HB.out).symm, HX.out.trans (Ext.alloc _ _)⟩
  · have e1 : ((op : Int) == 17) = false := by simp; omega
    by_cases h2 : op = 18
    · subst h2
      have HB := Lib.hid (show brB h = true from hb)
      clear hb e1 h1
      go_enter Tryd.func34, Tryd.ntmps34
      go_wp2_with fail
      refine HC.out.mono ?_
      rintro e w1 ⟨rfl, hx⟩
      have HX := Lib.hid (show Ext w w1 from hx)
      clear hx
      go_wp2_with fail
      go_ret
      exact ⟨(congrArg (fun b => Ending.returned (Value.bool b)) HB.out).symm, HX.out.trans (Ext.alloc _ _)⟩
    · have e2 : ((op : Int) == 18) = false := by simp; omega
      have HB := Lib.hid (show brB h = false from by rw [hb]; simp [h1, h2])
      clear hb h1 h2
      go_enter Tryd.func34, Tryd.ntmps34
      go_wp2_with fail
      refine HC.out.mono ?_
      rintro e w1 ⟨rfl, hx⟩
      have HX := Lib.hid (show Ext w w1 from hx)
      clear hx
      go_wp2_with fail
      go_ret
      exact ⟨(congrArg (fun b => Ending.returned (Value.bool b)) HB.out).symm, HX.out.trans (Ext.alloc _ _)⟩
/-- The leak behind, as it lies. -/
def Nx (w : World) (b o n : Nat) (nx : Option L) : Prop := match nx with
  | none => n = 1
  | some x => 1 < n ∧ w.cell? ⟨b, o + 10, none⟩ = some (u x.pc)
set_option maxRecDepth 100000 in
set_option maxHeartbeats 8000000 in
theorem cycles (b o n c : Nat) (l : L) (nx : Option L) (w : World) (hn : 1 ≤ n) (hn9 : n ≤ 100000) (hh : l.h < 65536) (hT : Tp.Tb w)
    (c0 : w.cell? ⟨b, o, none⟩ = some (u l.pc)) (c1 : w.cell? ⟨b, o + 1, none⟩ = some (.int .u16 (l.h : Int))) (c8 : w.cell? ⟨b, o + 8, none⟩ = some (.bool l.me)) (hx : Nx w b o n nx) :
    Calls Tryd.prog 25 #[.slice (some ⟨b, o, none⟩) n c] w fun e w' => e = .returned (.int .i64 (cyc1 l nx)) ∧ Ext w w' := by
  have hB := fun w hT => branches l.h hh w hT
  have hcy : cyc1 l nx = if l.me then 2 else if brB l.h && offB l nx then 3 else 1 := rfl
  have hnp : IntKind.u32.wrap ((l.pc.toNat : Int) + 2) = ((l.pc + 2#32).toNat : Int) := by rw [IntKind.wrap_u32]; exact next_pc l.pc
  have hoff : ∀ x, offB l (some x) = ((x.pc.toNat : Int) != ((l.pc + 2#32).toNat : Int)) := fun _ => rfl
  have hoffn : offB l none = false := rfl
  have hn1 : (0 : Int) < (n : Int) := by omega
  generalize l.pc + 2#32 = p2 at *
  generalize hpc : l.pc = pc at *
  generalize hlh : l.h = lh at *
  generalize cyc1 l nx = cy at *
  have HT := Lib.hid hT
  clear hT hpc hlh
  cases hm : l.me with
  | true =>
    rw [hm] at c8 hcy
    have HCY := Lib.hid (show cy = 2 from hcy)
    clear hcy hB hm hnp hoff hoffn hx
    go_enter Tryd.func25, Tryd.ntmps25
    go_wp2_with fail
    go_ret
    exact ⟨by rw [HCY.out]; rfl, Ext.refl _⟩
  | false =>
    rw [hm] at c8 hcy
    cases hb : brB lh with
    | false =>
      rw [hb] at hB hcy
      have HB := Lib.hid hB
      have HCY := Lib.hid (show (Value.int .i64 1) = .int .i64 (cy : Int) from by rw [show cy = 1 from hcy]; rfl)
      clear hcy hB hm hoff hoffn hx hb
      go_enter Tryd.func25, Tryd.ntmps25
      go_wp2_with fail
      have r0 := fun d os => cell_regrown c0 d os
      have r1 := fun d os => cell_regrown c1 d os
      have r8 := fun d os => cell_regrown c8 d os
      clear c0 c1 c8
      refine wp_region_quiet_below (by kernel_rfl) (by kernel_rfl) ?_
      repeat (go_big_quiet_step ((go_at_call 34; with_reducible exact Calls.regrown_of (HB.out _ (HT.out.below (below_regrown _ _ _))))))
      refine wpQuiet_nil ?_
      intro _ hw'
      obtain ⟨⟨dq, osq⟩, hw''⟩ := hw'
      subst hw''
      have HX := Lib.hid (below_regrown w dq osq)
      clear r0 r1 r8
      generalize Go.Sort.grow (redrawn w dq) osq = wq at *
      go_wp2_with fail
      go_ret
      exact ⟨congrArg Ending.returned HCY.out, HX.out⟩
    | true =>
      rw [hb] at hB hcy
      have HB := Lib.hid hB
      clear hB hb hm
      cases nx with
      | none =>
        obtain rfl : n = 1 := hx
        rw [hoffn] at hcy
        have HCY := Lib.hid (show (Value.int .i64 1) = .int .i64 (cy : Int) from by rw [show cy = 1 from hcy]; rfl)
        have hg : decide ((1 : Int) < ((1 : Nat) : Int)) = false := by decide
        clear hcy hoff hoffn
        go_enter Tryd.func25, Tryd.ntmps25
        go_wp2_with fail
        have r0 := fun d os => cell_regrown c0 d os
        have r1 := fun d os => cell_regrown c1 d os
        have r8 := fun d os => cell_regrown c8 d os
        clear c0 c1 c8
        refine wp_region_quiet_below (by kernel_rfl) (by kernel_rfl) ?_
        repeat (go_big_quiet_step ((go_at_call 34; with_reducible exact Calls.regrown_of (HB.out _ (HT.out.below (below_regrown _ _ _))))))
        refine wpQuiet_nil ?_
        intro _ hw'
        obtain ⟨⟨dq, osq⟩, hw''⟩ := hw'
        subst hw''
        have HX := Lib.hid (below_regrown w dq osq)
        clear r0 r1 r8
        generalize Go.Sort.grow (redrawn w dq) osq = wq at *
        go_wp2_with fail
        go_ret
        exact ⟨congrArg Ending.returned HCY.out, HX.out⟩
      | some x =>
        obtain ⟨hx1, c10⟩ := hx
        rw [hoff x] at hcy
        have hg : decide ((1 : Int) < (n : Int)) = true := by simp; omega
        have hn2 : (1 : Int) < (n : Int) := by omega
        generalize x.pc = xp at *
        cases hq : ((xp.toNat : Int) != (p2.toNat : Int)) with
        | true =>
          rw [hq] at hcy
          have HCY := Lib.hid (show (Value.int .i64 3) = .int .i64 (cy : Int) from by rw [show cy = 3 from hcy]; rfl)
          clear hcy hoff hoffn hx1
          go_enter Tryd.func25, Tryd.ntmps25
          go_wp2_with fail
          have r0 := fun d os => cell_regrown c0 d os
          have r1 := fun d os => cell_regrown c1 d os
          have r8 := fun d os => cell_regrown c8 d os
          have r10 := fun d os => cell_regrown c10 d os
          clear c0 c1 c8 c10
          refine wp_region_quiet_below (by kernel_rfl) (by kernel_rfl) ?_
          repeat (go_big_quiet_step ((go_at_call 34; with_reducible exact Calls.regrown_of (HB.out _ (HT.out.below (below_regrown _ _ _))))))
          refine wpQuiet_nil ?_
          intro _ hw'
          obtain ⟨⟨dq, osq⟩, hw''⟩ := hw'
          subst hw''
          have HX := Lib.hid (below_regrown w dq osq)
          clear r0 r1 r8 r10
          generalize Go.Sort.grow (redrawn w dq) osq = wq at *
          go_wp2_with fail
          go_ret
          exact ⟨congrArg Ending.returned HCY.out, HX.out⟩
        | false =>
          rw [hq] at hcy
          have HCY := Lib.hid (show (Value.int .i64 1) = .int .i64 (cy : Int) from by rw [show cy = 1 from hcy]; rfl)
          clear hcy hoff hoffn hx1
          go_enter Tryd.func25, Tryd.ntmps25
          go_wp2_with fail
          have r0 := fun d os => cell_regrown c0 d os
          have r1 := fun d os => cell_regrown c1 d os
          have r8 := fun d os => cell_regrown c8 d os
          have r10 := fun d os => cell_regrown c10 d os
          clear c0 c1 c8 c10
          refine wp_region_quiet_below (by kernel_rfl) (by kernel_rfl) ?_
          repeat (go_big_quiet_step ((go_at_call 34; with_reducible exact Calls.regrown_of (HB.out _ (HT.out.below (below_regrown _ _ _))))))
          refine wpQuiet_nil ?_
          intro _ hw'
          obtain ⟨⟨dq, osq⟩, hw''⟩ := hw'
          subst hw''
          have HX := Lib.hid (below_regrown w dq osq)
          clear r0 r1 r8 r10
          generalize Go.Sort.grow (redrawn w dq) osq = wq at *
          go_wp2_with fail
          go_ret
          exact ⟨congrArg Ending.returned HCY.out, HX.out⟩
set_option maxRecDepth 100000 in
set_option maxHeartbeats 4000000 in
theorem cyclesP (A : Option Addr) (c : Nat) (ls : List L) (w : World) (hA : Lies w A (ls.flatMap lcl)) (hl : ls.length ≤ 10000) (hc : ls.length ≤ c) (hcm : c ≤ maxLen) (hh : ∀ (k : Nat) (l : L), ls[k]? = some l → l.h < 65536) (hT : Tp.Tb w) :
    Calls Tryd.prog 17 #[.slice A ls.length c] w fun e w' => e = .returned (.int .i64 (cycT ls ls.length)) ∧ Ext w w' := by
  have HA := Lib.hid hA; have HH := Lib.hid hh; have HT := Lib.hid hT; have HCM := Lib.hid hcm
  clear hA hh hT hcm
  go_enter Tryd.func17, Tryd.ntmps17
  go_wp2_with fail
  go_loopw [3, 7] (fun vs vi wr => ∃ k : Nat, k ≤ ls.length ∧ vi = .int .i64 k ∧ vs = .int .i64 (cycT ls k) ∧ Hid (Ext w wr)) (fun _ vi _ => ls.length - (intOf vi).toNat)
  case atStart => exact ⟨0, by omega, rfl, rfl, Lib.hid (Ext.refl _)⟩
  case round =>
    obtain ⟨k, hk, rfl, rfl, HQ⟩ := hrel
    by_cases hlt : k < ls.length
    · obtain ⟨l, hx⟩ : ∃ l, ls[k]? = some l := ⟨_, List.getElem?_eq_getElem hlt⟩
      obtain ⟨b, o, rfl, _, a0, a1, a2, a3, a4, a5, a6, a7, a8, a9⟩ := leak_at (HQ.out.lies HA.out) hx
      have hnx : Nx wr b (o + k * 10) (ls.length - k) ls[k + 1]? := by
        unfold Nx
        by_cases h1 : k + 1 < ls.length
        · rw [List.getElem?_eq_getElem h1]
          obtain ⟨b', o', e, _, d0, _⟩ := leak_at (HQ.out.lies HA.out) (List.getElem?_eq_getElem h1)
          cases e
          exact ⟨by omega, by rw [show o + k * 10 + 10 = o + (k + 1) * 10 by omega]; exact d0⟩
        · rw [List.getElem?_eq_none (by omega)]
          show ls.length - k = 1; omega
      have hcc := cycles b (o + k * 10) (ls.length - k) (c - k) l ls[k + 1]? wr (by omega) (by omega) (HH.out k l hx) (HT.out.below HQ.out) a0 a1 a8 hnx
      have hst : cycT ls (k + 1) = cycT ls k + cyc1 l ls[k + 1]? := by
        show cycT ls k + cyc1 (ls.getD k zL) ls[k + 1]? = _
        rw [List.getD_eq_getElem?_getD, hx]; rfl
      have hle := cycT_le ls k
      have hl1 := cyc1_le l ls[k + 1]?
      generalize cyc1 l ls[k + 1]? = y at *
      generalize cycT ls k = z at *
      have HST := Lib.hid hst; have HCC := Lib.hid hcc
      have hkl : (k : Int) < (ls.length : Int) := by omega
      have hk0 : (0 : Int) ≤ (k : Int) := by omega
      have hkc : (k : Int) ≤ (c : Int) := by omega
      have hck : ¬ c = k := by omega
      have hcl : (ls.length : Int) ≤ (c : Int) := by omega
      have hz9 : (z : Int) ≤ 30000 := by omega
      have hy9 : (y : Int) ≤ 3 := by omega
      clear hx a0 a1 a2 a3 a4 a5 a6 a7 a8 a9 hnx hcc hst
      go_wp2_with fail
      refine HCC.out.mono ?_
      rintro e w5 ⟨rfl, hx5⟩
      have HX5 := Lib.hid (HQ.out.trans hx5)
      clear hx5
      go_wp2_with fail
      go_roundw
      case rel => exact ⟨k + 1, by omega, by go_num, by rw [HST.out]; go_num, HX5⟩
      case measure => simp [intOf]; omega
    · obtain rfl : k = ls.length := by omega
      go_wp2_with fail
      go_ret
      exact ⟨rfl, HQ.out⟩
end Go.Proofs.YtkafmpdjpjgkgaaDoor.Rn
/- DERIVED. The contract of the reference's Cycles. By an AI agent. -/
namespace Go.Proofs.YtkafmpdjpjgkgaaDoor.Rn
open Go.ChangeShapes Go.WideShapes Go.ChangeAt Go.RowKit WMath Word Args Mm Co Lk
set_option linter.unusedVariables false
set_option linter.unusedSimpArgs false
set_option maxRecDepth 100000 in
set_option maxHeartbeats 8000000 in
theorem rcyclesP (A : Option Addr) (c : Nat) (ls : List L) (w : World) (hA : Lies w A (ls.flatMap lcl)) (hl : ls.length ≤ 10000) (hh : ∀ (k : Nat) (l : L), ls[k]? = some l → l.h < 65536) :
    Calls Tryd.prog 18 #[.slice A ls.length c] w fun e w' => e = .returned (.int .i64 (cycT ls ls.length)) ∧ Ext w w' := by
  have HA := Lib.hid hA; have HH := Lib.hid hh
  clear hA hh
  go_enter Tryd.func18, Tryd.ntmps18
  go_wp2_with fail
  go_loopw [3, 4] (fun vs vi wr => ∃ k : Nat, k ≤ ls.length ∧ vi = .int .i64 k ∧ vs = .int .i64 (cycT ls k) ∧ Hid (Ext w wr)) (fun _ vi _ => ls.length - (intOf vi).toNat)
  case atStart => exact ⟨0, by omega, rfl, rfl, Lib.hid (Ext.refl _)⟩
  case round =>
    obtain ⟨k, hk, rfl, rfl, HQ⟩ := hrel
    by_cases hlt : k < ls.length
    · obtain ⟨l, hx⟩ : ∃ l, ls[k]? = some l := ⟨_, List.getElem?_eq_getElem hlt⟩
      obtain ⟨b, o, rfl, _, a0, a1, a2, a3, a4, a5, a6, a7, a8, a9⟩ := leak_at (HQ.out.lies HA.out) hx
      have hC := Tp.takeR l.h (HH.out k l hx) wr
      have hbr : brB l.h = ((Tp.takeF 21 0 l.h).1 == 17 || (Tp.takeF 21 0 l.h).1 == 18) := rfl
      have hnx : ls[k + 1]? = none ∧ ¬ k + 1 < ls.length ∨ ∃ x, ls[k + 1]? = some x ∧ k + 1 < ls.length ∧ wr.cell? ⟨b, o + (k + 1) * 10, none⟩ = some (u x.pc) := by
        by_cases h1 : k + 1 < ls.length
        · obtain ⟨b', o', e, _, d0, _⟩ := leak_at (HQ.out.lies HA.out) (List.getElem?_eq_getElem h1)
          cases e
          exact .inr ⟨_, List.getElem?_eq_getElem h1, h1, d0⟩
        · exact .inl ⟨List.getElem?_eq_none (by omega), h1⟩
      have hst : cycT ls (k + 1) = cycT ls k + cyc1 l ls[k + 1]? := by
        show cycT ls k + cyc1 (ls.getD k zL) ls[k + 1]? = _
        rw [List.getD_eq_getElem?_getD, hx]; rfl
      have hcy : cyc1 l ls[k + 1]? = if l.me then 2 else if brB l.h && offB l ls[k + 1]? then 3 else 1 := rfl
      have hle := cycT_le ls k
      have hnp : IntKind.u32.wrap ((l.pc.toNat : Int) + 2) = ((l.pc + 2#32).toNat : Int) := by rw [IntKind.wrap_u32]; exact next_pc l.pc
      rcases hq : Tp.takeF 21 0 l.h with ⟨op, ⟨D, N, M, I⟩, er⟩
      rw [hq] at hC hbr
      simp only [Tp.resV, Tp.insN] at hC
      simp only at hbr
      generalize ls[k + 1]? = nx at *
      generalize cycT ls k = z at *
      have HST := Lib.hid hst; have HCC := Lib.hid hC
      have hkl : (k : Int) < (ls.length : Int) := by omega
      have hk0 : (0 : Int) ≤ (k : Int) := by omega
      have hz9 : (z : Int) ≤ 30000 := by omega
      have hk9 : (k : Int) ≤ 10000 := by omega
      have hwk : IntKind.i64.wrap ((k : Int) + 1) = (k : Int) + 1 := by rw [IntKind.wrap_i64]; omega
      have hk1 : (0 : Int) ≤ (k : Int) + 1 := by omega
      have hkn : ((k : Int) + 1).toNat = k + 1 := by omega
      have HWK := Lib.hid hwk; have HKN := Lib.hid hkn
      clear hx a2 a3 a4 a5 a6 a7 a9 hC hst hq hwk hkn
      go_wp2_with fail
      refine HCC.out.mono ?_
      rintro e w5 ⟨rfl, hx5⟩
      have hx5' : Ext wr w5 := hx5
      go_upto_region 6 with fail
      have hx6 : Ext wr (w5.alloc (.cells #[.int .i64 (op : Int), .int .i64 D, .int .i64 N, .int .i64 M, .int .i64 I] 58)) := hx5'.trans (Ext.alloc _ _)
      have g0 : (w5.alloc (.cells #[.int .i64 (op : Int), .int .i64 D, .int .i64 N, .int .i64 M, .int .i64 I] 58)).cell? ⟨w5.heap.size, 0, none⟩ = some (.int .i64 (op : Int)) := (Blk.new w5 58 #[.int .i64 (op : Int), .int .i64 D, .int .i64 N, .int .i64 M, .int .i64 I]).cell 0
      have HX6 := Lib.hid (HQ.out.trans hx6)
      have c0 := cell_ext hx6 a0; have c8 := cell_ext hx6 a8
      have hnx6 : nx = none ∧ ¬ k + 1 < ls.length ∨ ∃ x, nx = some x ∧ k + 1 < ls.length ∧ (w5.alloc (.cells #[.int .i64 (op : Int), .int .i64 D, .int .i64 N, .int .i64 M, .int .i64 I] 58)).cell? ⟨b, o + (k + 1) * 10, none⟩ = some (u x.pc) := by
        rcases hnx with h | ⟨x, h1, h2, h3⟩
        · exact .inl h
        · exact .inr ⟨x, h1, h2, cell_ext hx6 h3⟩
      change Code.wp _ _ _ _ (w5.alloc (.cells #[.int .i64 (op : Int), .int .i64 D, .int .i64 N, .int .i64 M, .int .i64 I] 58))
      generalize w5.alloc (.cells #[.int .i64 (op : Int), .int .i64 D, .int .i64 N, .int .i64 M, .int .i64 I] 58) = w6 at *
      generalize w5.heap.size = q5 at *
      clear hx5 hx5' hx6 a0 a1 a8 hnx HCC
      cases hm : l.me with
      | true =>
        rw [hm] at c8 hcy
        have HY := Lib.hid (show cyc1 l nx = 2 from hcy)
        clear hcy hm hbr hnp hnx6
        go_wp2_with fail
        go_roundw
        case rel => exact ⟨k + 1, by omega, by go_num, by rw [HST.out, HY.out]; go_num, HX6⟩
        case measure => simp [intOf]; omega
      | false =>
        rw [hm] at c8 hcy
        clear hm
        have hwk := HWK.out
        have hkn := HKN.out
        by_cases hop : op = 17 ∨ op = 18
        · have hb : brB l.h = true := by rw [hbr]; rcases hop with rfl | rfl <;> rfl
          rw [hb] at hcy
          rcases hnx6 with ⟨rfl, h1⟩ | ⟨x, rfl, h1, c10⟩
          · have hg : decide ((k : Int) + 1 < (ls.length : Int)) = false := by simp; omega
            clear hbr hb h1 HKN HWK
            rcases hop with rfl | rfl
            · have e17 : ((18 : Int) == 17) = false := rfl
              skip
              have HY := Lib.hid (show cyc1 l _ = 1 from hcy)
              clear hcy
              go_wp2_with fail
              go_quiet (fail)
              go_wp2_with fail
              go_roundw
              case rel => exact ⟨k + 1, by omega, by go_num, by rw [HST.out, HY.out]; go_num, Lib.hid (ext_drewN HX6.out nq)⟩
              case measure => simp [intOf]; omega
            · have e17 : ((18 : Int) == 17) = false := rfl
              skip
              have HY := Lib.hid (show cyc1 l _ = 1 from hcy)
              clear hcy
              go_wp2_with fail
              go_quiet (fail)
              go_wp2_with fail
              go_roundw
              case rel => exact ⟨k + 1, by omega, by go_num, by rw [HST.out, HY.out]; go_num, Lib.hid (ext_drewN HX6.out nq)⟩
              case measure => simp [intOf]; omega
          · have hg : decide ((k : Int) + 1 < (ls.length : Int)) = true := by simp; omega
            have hg2 : (k : Int) + 1 < (ls.length : Int) := by omega
            have hof : offB l (some x) = ((x.pc.toNat : Int) != ((l.pc + 2#32).toNat : Int)) := rfl
            rw [hof] at hcy
            generalize l.pc + 2#32 = p2 at *
            generalize x.pc = xp at *
            clear hbr hb h1 HKN HWK hof
            cases hqq : ((xp.toNat : Int) != (p2.toNat : Int)) with
            | true =>
              rw [hqq] at hcy
              rcases hop with rfl | rfl
              · have e17 : ((18 : Int) == 17) = false := rfl
                skip
                have HY := Lib.hid (show cyc1 l _ = 3 from hcy)
                clear hcy
                go_wp2_with fail
                go_quiet (fail)
                go_wp2_with fail
                go_roundw
                case rel => exact ⟨k + 1, by omega, by go_num, by rw [HST.out, HY.out]; go_num, Lib.hid (ext_drewN HX6.out nq)⟩
                case measure => simp [intOf]; omega
              · have e17 : ((18 : Int) == 17) = false := rfl
                skip
                have HY := Lib.hid (show cyc1 l _ = 3 from hcy)
                clear hcy
                go_wp2_with fail
                go_quiet (fail)
                go_wp2_with fail
                go_roundw
                case rel => exact ⟨k + 1, by omega, by go_num, by rw [HST.out, HY.out]; go_num, Lib.hid (ext_drewN HX6.out nq)⟩
                case measure => simp [intOf]; omega
            | false =>
              rw [hqq] at hcy
              rcases hop with rfl | rfl
              · have e17 : ((18 : Int) == 17) = false := rfl
                skip
                have HY := Lib.hid (show cyc1 l _ = 1 from hcy)
                clear hcy
                go_wp2_with fail
                go_quiet (fail)
                go_wp2_with fail
                go_roundw
                case rel => exact ⟨k + 1, by omega, by go_num, by rw [HST.out, HY.out]; go_num, Lib.hid (ext_drewN HX6.out nq)⟩
                case measure => simp [intOf]; omega
              · have e17 : ((18 : Int) == 17) = false := rfl
                skip
                have HY := Lib.hid (show cyc1 l _ = 1 from hcy)
                clear hcy
                go_wp2_with fail
                go_quiet (fail)
                go_wp2_with fail
                go_roundw
                case rel => exact ⟨k + 1, by omega, by go_num, by rw [HST.out, HY.out]; go_num, Lib.hid (ext_drewN HX6.out nq)⟩
                case measure => simp [intOf]; omega
        · have e17 : ((op : Int) == 17) = false := by simp; omega
          have e18 : ((op : Int) == 18) = false := by simp; omega
          have hb : brB l.h = false := by rw [hbr]; simp; omega
          rw [hb] at hcy
          clear hbr hb hop hnx6 hnp HKN HWK
          skip
          have HY := Lib.hid (show cyc1 l _ = 1 from hcy)
          clear hcy
          go_wp2_with fail
          go_quiet (fail)
          go_wp2_with fail
          go_roundw
          case rel => exact ⟨k + 1, by omega, by go_num, by rw [HST.out, HY.out]; go_num, Lib.hid (ext_drewN HX6.out nq)⟩
          case measure => simp [intOf]; omega
    · obtain rfl : k = ls.length := by omega
      go_wp2_with fail
      go_ret
      exact ⟨rfl, HQ.out⟩
end Go.Proofs.YtkafmpdjpjgkgaaDoor.Rn
