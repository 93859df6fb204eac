/- DERIVED. MmPlc in one text. By an AI agent. -/
import Derived.Test.YtkafmpdjpjgkgaaDoorZ01
import Derived.Test.YtkafmpdjpjgkgaaDoorRows
import Derived.WalkKit
import Derived.RegionTactic
import Derived.ProofKit
import Derived.Deep.QuietTactic
import Derived.BigQuiet
import Derived.Outline
import Derived.Lib.Hide
import Derived.OwnWalk
import Derived.WalkSmall
import Derived.WalkSpells
import Derived.Below
import Derived.Laws.BitsAllLaws
/- DERIVED. Contracts of the program's place, has, look, Bus, Drawn. By an AI agent. -/
namespace Go.Proofs.YtkafmpdjpjgkgaaDoor.Mm
open Go.ChangeShapes Go.WideShapes Go.ChangeAt Go.RowKit Args
set_option linter.unusedVariables false
abbrev PP := PM 80 37 36
abbrev ptr (r : Nat) : Value := .pointer (some ⟨r, 0, none⟩)
/-- The answer; the world but for draws. -/
def Qt (v : Value) (w : World) (e : Ending) (w' : World) : Prop := e = .returned v ∧ ∃ n, w' = w.drewN n
theorem Qt.of (v : Value) (w : World) (n : Nat) : Qt v w (.returned v) (w.drewN n) := ⟨rfl, n, rfl⟩
theorem drewN_add (w : World) (a b : Nat) : (w.drewN a).drewN b = w.drewN (a + b) := by
  unfold World.drewN; simp [Nat.add_assoc]
theorem Qt.of2 (v : Value) (w : World) (a b : Nat) : Qt v w (.returned v) ((w.drewN a).drewN b) := ⟨rfl, a + b, drewN_add w a b⟩
theorem Qt.same (v : Value) (w : World) : Qt v w (.returned v) w := ⟨rfl, 0, rfl⟩
theorem far_wrap (a f : Int) : IntKind.u32.wrap (a - f) = far a f := rfl
set_option maxHeartbeats 1000000 in
theorem place (a f s : Int) (n : Nat) (hs : s = 2 ∨ s = 4) (hn : n ≤ 60000) (w : World) :
    Calls Tryd.prog 69 #[.int .u32 a, .int .u32 f, .int .u32 s, .int .i64 n] w fun e w' => e = .returned (plcV a f s n) ∧ w = w' := by
  have hw := far_wrap a f
  have q0 := far_lo a f
  have q1 := far_hi a f
  unfold plcV plcB
  generalize far a f = q at *
  have hn2 : (n : Int) ≤ 60000 := by omega
  clear hn
  rcases hs with rfl | rfl
  · by_cases h1 : q % 2 = 0
    · by_cases h2 : q / 2 < n
      · simp only [h1, h2, decide_true, Bool.and_self, if_true]
        go_enter Tryd.func69, Tryd.ntmps69
        go_wp2_with fail
        go_ret2
        exact ⟨rfl, rfl⟩
      · simp only [h1, h2, decide_true, decide_false, Bool.and_false, if_false, Bool.false_eq_true]
        go_enter Tryd.func69, Tryd.ntmps69
        go_wp2_with fail
        go_ret2
        exact ⟨rfl, rfl⟩
    · simp only [h1, decide_false, Bool.false_and, if_false, Bool.false_eq_true]
      go_enter Tryd.func69, Tryd.ntmps69
      go_wp2_with fail
      go_ret2
      exact ⟨rfl, rfl⟩
  · by_cases h1 : q % 4 = 0
    · by_cases h2 : q / 4 < n
      · simp only [h1, h2, decide_true, Bool.and_self, if_true]
        go_enter Tryd.func69, Tryd.ntmps69
        go_wp2_with fail
        go_ret2
        exact ⟨rfl, rfl⟩
      · simp only [h1, h2, decide_true, decide_false, Bool.and_false, if_false, Bool.false_eq_true]
        go_enter Tryd.func69, Tryd.ntmps69
        go_wp2_with fail
        go_ret2
        exact ⟨rfl, rfl⟩
    · simp only [h1, decide_false, Bool.false_and, if_false, Bool.false_eq_true]
      go_enter Tryd.func69, Tryd.ntmps69
      go_wp2_with fail
      go_ret2
      exact ⟨rfl, rfl⟩
section
variable (n0 : Nat) (h : Hd) (s : St) (w : World)
theorem bus (p : PP n0 h s w) : Calls Tryd.prog 68 #[ptr h.r] w fun e w' => e = .returned (.int .u32 s.b) ∧ w = w' := by
  have c4 : w.cell? ⟨h.r, 4, none⟩ = some (.int .u32 s.b) := p.blk.cell 4
  generalize h.r = r at *
  generalize s.b = b at *
  clear p
  go_enter Tryd.func68, Tryd.ntmps68
  go_wp2_with fail
  go_ret
  exact ⟨rfl, rfl⟩
theorem drawn (p : PP n0 h s w) : Calls Tryd.prog 29 #[ptr h.r] w fun e w' => e = .returned (.int .i64 s.d) ∧ w = w' := by
  have c3 : w.cell? ⟨h.r, 3, none⟩ = some (.int .i64 s.d) := p.blk.cell 3
  generalize h.r = r at *
  generalize s.d = d at *
  clear p
  go_enter Tryd.func29, Tryd.ntmps29
  go_wp2_with fail
  go_ret
  exact ⟨rfl, rfl⟩
theorem has_yes (p : PP n0 h s w) (i : Int) (i0 : 0 ≤ i) (i1 : i < s.W.length) : Calls Tryd.prog 55 #[ptr h.r, .int .i64 i] w fun e w' => e = .returned (.bool true) ∧ w = w' := by
  have c1 : w.cell? ⟨h.r, 1, none⟩ = some (.slice h.AW s.W.length h.cW) := p.blk.cell 1
  generalize h.r = r at *
  generalize s.W.length = n at *
  clear p
  go_enter Tryd.func55, Tryd.ntmps55
  go_wp2_with fail
  go_ret
  exact ⟨rfl, rfl⟩
theorem has_no (p : PP n0 h s w) (i : Int) (hi : i < 0 ∨ (s.W.length : Int) ≤ i) : Calls Tryd.prog 55 #[ptr h.r, .int .i64 i] w fun e w' => e = .returned (.bool false) ∧ w = w' := by
  have c1 : w.cell? ⟨h.r, 1, none⟩ = some (.slice h.AW s.W.length h.cW) := p.blk.cell 1
  generalize h.r = r at *
  generalize s.W.length = n at *
  clear p
  by_cases i0 : i < 0
  · clear hi
    go_enter Tryd.func55, Tryd.ntmps55
    go_wp2_with fail
    go_ret
    exact ⟨rfl, rfl⟩
  · have i1 : 0 ≤ i := by omega
    have i2 : decide (i < (n : Int)) = false := by simp; omega
    clear hi i0
    go_enter Tryd.func55, Tryd.ntmps55
    go_wp2_with fail
    go_ret
    exact ⟨rfl, rfl⟩
end
theorem lo_hi (x y : Int) (x0 : 0 ≤ x) (x1 : x < 65536) (y0 : 0 ≤ y) (y1 : y < 65536) : bits .or .u32 x (y * 65536) = x + 65536 * y := by
  obtain ⟨X, rfl⟩ := Int.eq_ofNat_of_zero_le x0
  obtain ⟨Y, rfl⟩ := Int.eq_ofNat_of_zero_le y0
  have e : (Y : Int) * 65536 = ((Y * 65536 : Nat) : Int) := by omega
  rw [e, u32_or_nat X (Y * 65536) (by omega) (by omega), Nat.or_comm, nat_join 16 (Y * 65536) X (by omega) (by omega)]
  simp; omega
end Go.Proofs.YtkafmpdjpjgkgaaDoor.Mm
