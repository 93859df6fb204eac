/- DERIVED. CoFl, CoHo in one text. By an AI agent. -/
import Derived.Test.YtkafmpdjpjgkgaaDoorZ06
import Derived.Test.YtkafmpdjpjgkgaaDoorZ07
import Derived.Test.YtkafmpdjpjgkgaaDoorZ08
import Derived.Deep.RegionHeld3
import Derived.BigRegion
import Derived.StillTailTactics
/- DERIVED. Contracts of the program's Flags, Holds, sum, less, shift, and of the reference's Flags, Holds, not. By an AI agent. -/
namespace Go.Proofs.YtkafmpdjpjgkgaaDoor.Co
open Go.ChangeShapes Go.WideShapes Go.ChangeAt Go.RowKit WMath Word Ref Args
set_option linter.unusedVariables false
theorem top_shr (x : BitVec 32) : ((x.toNat : Int) / 2147483648 == 1) = x.msb := top x
theorem zero_eq (x : BitVec 32) : ((x.toNat : Int) == 0) = (x == 0#32) := eq_u x 0#32
theorem top_ge (x : BitVec 32) : decide ((2147483648 : Int) ≤ (x.toNat : Int)) = x.msb := by
  rw [← top x, Bool.eq_iff_iff]; have := x.isLt; simp; omega
set_option maxRecDepth 100000 in
set_option maxHeartbeats 1000000 in
theorem flags (s : S) (x : BitVec 32) (w : World) : Calls Tryd.prog 78 #[sv s, u x] w fun e w' => e = .returned (sv (s.fl x)) ∧ Below w.heap.size w w' := by
  have h2 := bd x
  have e1 := top_shr x
  have e2 := zero_eq x
  obtain ⟨r, pc, n, z, c, v⟩ := s
  show Calls _ _ #[.agg #[u (r 0), u (r 1), u (r 2), u (r 3), u (r 4), u (r 5), u (r 6), u (r 7), u pc, .bool n, .bool z, .bool c, .bool v], u x] w fun e w' => e = .returned (.agg #[u (r 0), u (r 1), u (r 2), u (r 3), u (r 4), u (r 5), u (r 6), u (r 7), u pc, .bool x.msb, .bool (x == 0#32), .bool c, .bool v]) ∧ _
  go_enter Tryd.func78, Tryd.ntmps78
  go_wp2_with fail
  refine bodyPost_ret (v := .agg #[u (r 0), u (r 1), u (r 2), u (r 3), u (r 4), u (r 5), u (r 6), u (r 7), u pc, .bool x.msb, .bool (x == 0#32), .bool c, .bool v]) (by simp [results, Tryd.results78, go_sem]) rfl ⟨rfl, ?_⟩
  exact (by repeat (first | exact Below.refl _ _ | (with_reducible refine Below.setCell ?_ (by simp) _) | (with_reducible refine Below.alloc ?_ (by simp) _) | (with_reducible refine Below.drew ?_)))
set_option maxRecDepth 100000 in
set_option maxHeartbeats 1000000 in
theorem rflags (s : S) (x : BitVec 32) (w : World) : Calls Tryd.prog 62 #[sv s, u x] w fun e w' => e = .returned (sv (s.fl x)) ∧ Below w.heap.size w w' := by
  have h2 := bd x
  have e1 := top_ge x
  have e2 := zero_eq x
  obtain ⟨r, pc, n, z, c, v⟩ := s
  show Calls _ _ #[.agg #[u (r 0), u (r 1), u (r 2), u (r 3), u (r 4), u (r 5), u (r 6), u (r 7), u pc, .bool n, .bool z, .bool c, .bool v], u x] w fun e w' => e = .returned (.agg #[u (r 0), u (r 1), u (r 2), u (r 3), u (r 4), u (r 5), u (r 6), u (r 7), u pc, .bool x.msb, .bool (x == 0#32), .bool c, .bool v]) ∧ _
  go_enter Tryd.func62, Tryd.ntmps62
  go_wp2_with fail
  refine bodyPost_ret (v := .agg #[u (r 0), u (r 1), u (r 2), u (r 3), u (r 4), u (r 5), u (r 6), u (r 7), u pc, .bool x.msb, .bool (x == 0#32), .bool c, .bool v]) (by simp [results, Tryd.results62, go_sem]) rfl ⟨rfl, ?_⟩
  exact (by repeat (first | exact Below.refl _ _ | (with_reducible refine Below.setCell ?_ (by simp) _) | (with_reducible refine Below.alloc ?_ (by simp) _) | (with_reducible refine Below.drew ?_)))
theorem rnot (x : BitVec 32) (w : World) : Calls Tryd.prog 46 #[u x] w fun e w' => e = .returned (u (~~~x)) ∧ w = w' := by
  have h2 := bd x
  go_enter Tryd.func46, Tryd.ntmps46
  go_wp2_with fail
  go_ret
  exact ⟨by show Ending.returned (.int .u32 (4294967295 - (x.toNat : Int))) = _; rw [not_sub x], rfl⟩
set_option maxHeartbeats 1000000 in
theorem csum (a b : BitVec 32) (c : Bool) (w : World) : Calls Tryd.prog 86 #[u a, u b, .bool c] w fun e w' => e = .returned (rV (sum3 a b c)) ∧ Below w.heap.size w w' := by
  have hA := fun W => add a b c W
  show Calls _ _ _ _ fun e w' => e = .returned (.tuple #[u (sum a b c), .agg #[.bool (carry a b c), .bool (over a b c)]]) ∧ _
  generalize sum a b c = x at *
  generalize carry a b c = d at *
  generalize over a b c = f at *
  have HA := Lib.hid hA
  clear hA
  go_enter Tryd.func86, Tryd.ntmps86
  go_wp2_with fail
  refine (HA.out _).mono ?_
  rintro e w' ⟨rfl, rfl⟩
  go_wp2_with fail
  refine bodyPost_ret (v := .tuple #[u x, .agg #[.bool d, .bool f]]) (by simp [results, Tryd.results86, go_sem]) rfl ⟨rfl, ?_⟩
  exact (by repeat (first | exact Below.refl _ _ | (with_reducible refine Below.setCell ?_ (by simp) _) | (with_reducible refine Below.alloc ?_ (by simp) _) | (with_reducible refine Below.drew ?_)))
set_option maxHeartbeats 1000000 in
theorem cless (a b : BitVec 32) (w : World) : Calls Tryd.prog 87 #[u a, u b] w fun e w' => e = .returned (rV (sum3 a (~~~b) true)) ∧ Below w.heap.size w w' := by
  have hA := fun W => csum a (~~~b) true W
  have hn := un_not b
  generalize ~~~b = nb at hA hn ⊢
  generalize sum3 a nb true = x at hA ⊢
  have HA := Lib.hid hA
  clear hA
  go_enter Tryd.func87, Tryd.ntmps87
  go_wp2_with fail
  refine (HA.out _).mono ?_
  rintro e w1 ⟨rfl, hb⟩
  have HB := Lib.hid (show Below w.heap.size w w1 from (Below.trans ((Below.refl _ _).alloc (Nat.le_refl _) _) (hb.mono (by simp))))
  have hk : Blk w1 w.heap.size 128 #[.bool false, .bool false] := (Blk.new w 128 #[.bool false, .bool false]).below hb (by simp)
  have k0 := hk.cell 0; have k1 := hk.cell 1; have f0 := hk.frozen 0; have f1 := hk.frozen 1
  have HK := Lib.hid hk
  clear hb hk
  go_wp2_with fail
  obtain ⟨hB, hU⟩ := blk2 HK.out (.bool x.c) (.bool x.v)
  have HL := Lib.hid (upd_low HB.out hU (Nat.le_refl _))
  generalize (w1.setCell ⟨w.heap.size, 0, none⟩ (.bool x.c)).setCell ⟨w.heap.size, 1, none⟩ (.bool x.v) = WW at *
  have r0 : WW.cell? ⟨w.heap.size, 0, none⟩ = some (.bool x.c) := hB.cell 0
  have r1 : WW.cell? ⟨w.heap.size, 1, none⟩ = some (.bool x.v) := hB.cell 1
  refine bodyPost_ret (v := rV x) (by simp [results, Tryd.results87, go_sem, r0, r1]) rfl ⟨rfl, HL.out⟩
set_option maxHeartbeats 1000000 in
theorem cshift (k : Int) (a : BitVec 32) (n : Nat) (hn : n < 4294967296) (c v : Bool) (w : World) : Calls Tryd.prog 85 #[.int .i64 k, u a, .int .u32 n, .agg #[.bool c, .bool v]] w fun e w' => e = .returned (rV (sh3 k a n c v)) ∧ Below w.heap.size w w' := by
  have hA := fun W => shift k a n hn c W
  show Calls _ _ _ _ fun e w' => e = .returned (.tuple #[u (shV k a n), .agg #[.bool (shC k a n c), .bool v]]) ∧ _
  generalize shV k a n = x at *
  generalize shC k a n c = d at *
  have HA := Lib.hid hA
  clear hA
  go_enter Tryd.func85, Tryd.ntmps85
  go_wp2_with fail
  refine (HA.out _).mono ?_
  rintro e w' ⟨rfl, rfl⟩
  go_wp2_with fail
  go_region
  go_wp2_with fail
  refine bodyPost_ret (v := .tuple #[u x, .agg #[.bool d, .bool v]]) (by simp [results, Tryd.results85, go_sem]) rfl ⟨rfl, ?_⟩
  exact (by repeat (first | exact Below.refl _ _ | (with_reducible refine Below.setCell ?_ (by simp) _) | (with_reducible refine Below.alloc ?_ (by simp) _) | (with_reducible refine Below.drew ?_)))
end Go.Proofs.YtkafmpdjpjgkgaaDoor.Co
/- DERIVED. Contracts of the program's Holds. By an AI agent. -/
namespace Go.Proofs.YtkafmpdjpjgkgaaDoor.Co
open Go.ChangeShapes Go.WideShapes Go.ChangeAt Go.RowKit WMath Word Ref Args
set_option linter.unusedVariables false
theorem holds_not (k : Int) (s : S) (h : k < 0 ∨ 13 < k) : holdsB k s = false := by
  unfold holdsB; simp only [show ¬ k = 0 by omega, show ¬ k = 1 by omega, show ¬ k = 2 by omega, show ¬ k = 3 by omega, show ¬ k = 4 by omega, show ¬ k = 5 by omega, show ¬ k = 6 by omega, show ¬ k = 7 by omega, show ¬ k = 8 by omega, show ¬ k = 9 by omega, show ¬ k = 10 by omega, show ¬ k = 11 by omega, show ¬ k = 12 by omega, show ¬ k = 13 by omega, if_false]
set_option maxRecDepth 100000 in
set_option maxHeartbeats 4000000 in
theorem holds (k : Int) (s : S) (w : World) : Calls Tryd.prog 83 #[.int .i64 k, sv s] w fun e w' => e = .returned (.bool (holdsB k s)) ∧ Below w.heap.size w w' := by
  by_cases hk : k < 0 ∨ 13 < k
  · rw [holds_not k s hk]
    have k0 : (k == 0) = false := by simp; omega
    have k1 : (k == 1) = false := by simp; omega
    have k2 : (k == 2) = false := by simp; omega
    have k3 : (k == 3) = false := by simp; omega
    have k4 : (k == 4) = false := by simp; omega
    have k5 : (k == 5) = false := by simp; omega
    have k6 : (k == 6) = false := by simp; omega
    have k7 : (k == 7) = false := by simp; omega
    have k8 : (k == 8) = false := by simp; omega
    have k9 : (k == 9) = false := by simp; omega
    have k10 : (k == 10) = false := by simp; omega
    have k11 : (k == 11) = false := by simp; omega
    have k12 : (k == 12) = false := by simp; omega
    have k13 : (k == 13) = false := by simp; omega
    obtain ⟨r, pc, n, z, c, v⟩ := s
    show Calls _ _ #[.int .i64 k, .agg #[u (r 0), u (r 1), u (r 2), u (r 3), u (r 4), u (r 5), u (r 6), u (r 7), u pc, .bool n, .bool z, .bool c, .bool v]] w _
    clear hk
    go_enter Tryd.func83, Tryd.ntmps83
    go_wp2_with fail
    go_ret
    exact ⟨rfl, (by repeat (first | exact Below.refl _ _ | (with_reducible refine Below.setCell ?_ (by simp) _) | (with_reducible refine Below.alloc ?_ (by simp) _) | (with_reducible refine Below.drew ?_)))⟩
  · have hr : k = 0 ∨ k = 1 ∨ k = 2 ∨ k = 3 ∨ k = 4 ∨ k = 5 ∨ k = 6 ∨ k = 7 ∨ k = 8 ∨ k = 9 ∨ k = 10 ∨ k = 11 ∨ k = 12 ∨ k = 13 := by omega
    clear hk
    obtain ⟨r, pc, n, z, c, v⟩ := s
    show Calls _ _ #[.int .i64 k, .agg #[u (r 0), u (r 1), u (r 2), u (r 3), u (r 4), u (r 5), u (r 6), u (r 7), u pc, .bool n, .bool z, .bool c, .bool v]] w _
    rcases hr with rfl | rfl | rfl | rfl | rfl | rfl | rfl | rfl | rfl | rfl | rfl | rfl | rfl | rfl
    · go_enter Tryd.func83, Tryd.ntmps83
      go_wp2_with fail
      go_ret
      exact ⟨by simp [holdsB], (by repeat (first | exact Below.refl _ _ | (with_reducible refine Below.setCell ?_ (by simp) _) | (with_reducible refine Below.alloc ?_ (by simp) _) | (with_reducible refine Below.drew ?_)))⟩
    · go_enter Tryd.func83, Tryd.ntmps83
      go_wp2_with fail
      go_ret
      exact ⟨by simp [holdsB], (by repeat (first | exact Below.refl _ _ | (with_reducible refine Below.setCell ?_ (by simp) _) | (with_reducible refine Below.alloc ?_ (by simp) _) | (with_reducible refine Below.drew ?_)))⟩
    · go_enter Tryd.func83, Tryd.ntmps83
      go_wp2_with fail
      go_ret
      exact ⟨by simp [holdsB], (by repeat (first | exact Below.refl _ _ | (with_reducible refine Below.setCell ?_ (by simp) _) | (with_reducible refine Below.alloc ?_ (by simp) _) | (with_reducible refine Below.drew ?_)))⟩
    · go_enter Tryd.func83, Tryd.ntmps83
      go_wp2_with fail
      go_ret
      exact ⟨by simp [holdsB], (by repeat (first | exact Below.refl _ _ | (with_reducible refine Below.setCell ?_ (by simp) _) | (with_reducible refine Below.alloc ?_ (by simp) _) | (with_reducible refine Below.drew ?_)))⟩
    · go_enter Tryd.func83, Tryd.ntmps83
      go_wp2_with fail
      go_ret
      exact ⟨by simp [holdsB], (by repeat (first | exact Below.refl _ _ | (with_reducible refine Below.setCell ?_ (by simp) _) | (with_reducible refine Below.alloc ?_ (by simp) _) | (with_reducible refine Below.drew ?_)))⟩
    · go_enter Tryd.func83, Tryd.ntmps83
      go_wp2_with fail
      go_ret
      exact ⟨by simp [holdsB], (by repeat (first | exact Below.refl _ _ | (with_reducible refine Below.setCell ?_ (by simp) _) | (with_reducible refine Below.alloc ?_ (by simp) _) | (with_reducible refine Below.drew ?_)))⟩
    · go_enter Tryd.func83, Tryd.ntmps83
      go_wp2_with fail
      go_ret
      exact ⟨by simp [holdsB], (by repeat (first | exact Below.refl _ _ | (with_reducible refine Below.setCell ?_ (by simp) _) | (with_reducible refine Below.alloc ?_ (by simp) _) | (with_reducible refine Below.drew ?_)))⟩
    · go_enter Tryd.func83, Tryd.ntmps83
      go_wp2_with fail
      go_ret
      exact ⟨by simp [holdsB], (by repeat (first | exact Below.refl _ _ | (with_reducible refine Below.setCell ?_ (by simp) _) | (with_reducible refine Below.alloc ?_ (by simp) _) | (with_reducible refine Below.drew ?_)))⟩
    · cases c
      · go_enter Tryd.func83, Tryd.ntmps83
        go_wp2_with fail
        go_ret
        exact ⟨by simp [holdsB], (by repeat (first | exact Below.refl _ _ | (with_reducible refine Below.setCell ?_ (by simp) _) | (with_reducible refine Below.alloc ?_ (by simp) _) | (with_reducible refine Below.drew ?_)))⟩
      · go_enter Tryd.func83, Tryd.ntmps83
        go_wp2_with fail
        go_ret
        exact ⟨by simp [holdsB], (by repeat (first | exact Below.refl _ _ | (with_reducible refine Below.setCell ?_ (by simp) _) | (with_reducible refine Below.alloc ?_ (by simp) _) | (with_reducible refine Below.drew ?_)))⟩
    · cases c
      · go_enter Tryd.func83, Tryd.ntmps83
        go_wp2_with fail
        go_ret
        exact ⟨by simp [holdsB], (by repeat (first | exact Below.refl _ _ | (with_reducible refine Below.setCell ?_ (by simp) _) | (with_reducible refine Below.alloc ?_ (by simp) _) | (with_reducible refine Below.drew ?_)))⟩
      · go_enter Tryd.func83, Tryd.ntmps83
        go_wp2_with fail
        go_ret
        exact ⟨by simp [holdsB], (by repeat (first | exact Below.refl _ _ | (with_reducible refine Below.setCell ?_ (by simp) _) | (with_reducible refine Below.alloc ?_ (by simp) _) | (with_reducible refine Below.drew ?_)))⟩
    · go_enter Tryd.func83, Tryd.ntmps83
      go_wp2_with fail
      go_ret
      exact ⟨by simp [holdsB], (by repeat (first | exact Below.refl _ _ | (with_reducible refine Below.setCell ?_ (by simp) _) | (with_reducible refine Below.alloc ?_ (by simp) _) | (with_reducible refine Below.drew ?_)))⟩
    · go_enter Tryd.func83, Tryd.ntmps83
      go_wp2_with fail
      go_ret
      exact ⟨by cases n <;> cases v <;> simp [holdsB], (by repeat (first | exact Below.refl _ _ | (with_reducible refine Below.setCell ?_ (by simp) _) | (with_reducible refine Below.alloc ?_ (by simp) _) | (with_reducible refine Below.drew ?_)))⟩
    · cases z
      · go_enter Tryd.func83, Tryd.ntmps83
        go_wp2_with fail
        go_ret
        exact ⟨by simp [holdsB], (by repeat (first | exact Below.refl _ _ | (with_reducible refine Below.setCell ?_ (by simp) _) | (with_reducible refine Below.alloc ?_ (by simp) _) | (with_reducible refine Below.drew ?_)))⟩
      · go_enter Tryd.func83, Tryd.ntmps83
        go_wp2_with fail
        go_ret
        exact ⟨by simp [holdsB], (by repeat (first | exact Below.refl _ _ | (with_reducible refine Below.setCell ?_ (by simp) _) | (with_reducible refine Below.alloc ?_ (by simp) _) | (with_reducible refine Below.drew ?_)))⟩
    · cases z
      · go_enter Tryd.func83, Tryd.ntmps83
        go_wp2_with fail
        go_ret
        exact ⟨by cases n <;> cases v <;> simp [holdsB], (by repeat (first | exact Below.refl _ _ | (with_reducible refine Below.setCell ?_ (by simp) _) | (with_reducible refine Below.alloc ?_ (by simp) _) | (with_reducible refine Below.drew ?_)))⟩
      · go_enter Tryd.func83, Tryd.ntmps83
        go_wp2_with fail
        go_ret
        exact ⟨by cases n <;> cases v <;> simp [holdsB], (by repeat (first | exact Below.refl _ _ | (with_reducible refine Below.setCell ?_ (by simp) _) | (with_reducible refine Below.alloc ?_ (by simp) _) | (with_reducible refine Below.drew ?_)))⟩
end Go.Proofs.YtkafmpdjpjgkgaaDoor.Co
