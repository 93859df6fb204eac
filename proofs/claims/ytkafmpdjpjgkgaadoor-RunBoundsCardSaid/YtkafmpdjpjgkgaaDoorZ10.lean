/- DERIVED. CoAlu in one text. By an AI agent. -/
import Derived.Test.YtkafmpdjpjgkgaaDoorZ09
/- DERIVED. The contract of the program's alu. By an AI agent. -/
namespace Go.Proofs.YtkafmpdjpjgkgaaDoor.Co
open Go.ChangeShapes Go.WideShapes Go.ChangeAt Go.RowKit WMath Word Ref Args
set_option linter.unusedVariables false
set_option linter.unusedSimpArgs false
theorem and255 (x : BitVec 32) : bits .and .u32 (x.toNat : Int) 255 = ((x.toNat % 256 : Nat) : Int) := by
  have h := b_and x 255#32
  rw [show ((255#32).toNat : Int) = 255 from rfl] at h
  rw [h, BitVec.toNat_and, show (255#32).toNat = 2 ^ 8 - 1 from rfl, Nat.and_two_pow_sub_one_eq_mod]
set_option maxRecDepth 100000 in
set_option maxHeartbeats 1000000 in
theorem walu0 (d m : BitVec 32) (c v : Bool) (w : World) : Calls Tryd.prog 88 #[.int .i64 0, u d, u m, .agg #[.bool c, .bool v]] w fun e w' => e = .returned (rV (alu3 0 d m c v)) ∧ Below w.heap.size w w' := by
  have h1 := bd d; have h2 := bd m
  have h255 := and255 m
  have hlt : m.toNat % 256 < 256 := Nat.mod_lt _ (by decide)
  have e : alu3 0 d m c v = ⟨d &&& m, c, v⟩ := rfl
  rw [e]
  have hx := b_and d m
  generalize d &&& m = x at *
  generalize m.toNat % 256 = y at *
  go_enter Tryd.func88, Tryd.ntmps88
  go_wp2_with fail
  go_region
  all_goals
    go_wp2_with fail
    refine bodyPost_ret (v := .tuple #[u x, .agg #[.bool c, .bool v]]) (by simp [results, Tryd.results88, go_sem]) rfl ⟨rfl, ?_⟩
    exact (by repeat (first | exact Below.refl _ _ | (with_reducible refine Below.setCell ?_ (by simp) _) | (with_reducible refine Below.alloc ?_ (by simp) _) | (with_reducible refine Below.drew ?_)))
set_option maxRecDepth 100000 in
set_option maxHeartbeats 1000000 in
theorem walu1 (d m : BitVec 32) (c v : Bool) (w : World) : Calls Tryd.prog 88 #[.int .i64 1, u d, u m, .agg #[.bool c, .bool v]] w fun e w' => e = .returned (rV (alu3 1 d m c v)) ∧ Below w.heap.size w w' := by
  have h1 := bd d; have h2 := bd m
  have h255 := and255 m
  have hlt : m.toNat % 256 < 256 := Nat.mod_lt _ (by decide)
  have e : alu3 1 d m c v = ⟨d ^^^ m, c, v⟩ := rfl
  rw [e]
  have hx := b_xor d m
  generalize d ^^^ m = x at *
  generalize m.toNat % 256 = y at *
  go_enter Tryd.func88, Tryd.ntmps88
  go_wp2_with fail
  go_region
  all_goals
    go_wp2_with fail
    refine bodyPost_ret (v := .tuple #[u x, .agg #[.bool c, .bool v]]) (by simp [results, Tryd.results88, go_sem]) rfl ⟨rfl, ?_⟩
    exact (by repeat (first | exact Below.refl _ _ | (with_reducible refine Below.setCell ?_ (by simp) _) | (with_reducible refine Below.alloc ?_ (by simp) _) | (with_reducible refine Below.drew ?_)))
set_option maxRecDepth 100000 in
set_option maxHeartbeats 1000000 in
theorem walu2 (d m : BitVec 32) (c v : Bool) (w : World) : Calls Tryd.prog 88 #[.int .i64 2, u d, u m, .agg #[.bool c, .bool v]] w fun e w' => e = .returned (rV (alu3 2 d m c v)) ∧ Below w.heap.size w w' := by
  have h1 := bd d; have h2 := bd m
  have h255 := and255 m
  have hlt : m.toNat % 256 < 256 := Nat.mod_lt _ (by decide)
  have e : alu3 2 d m c v = sh3 0 d (m.toNat % 256) c v := rfl
  rw [e]
  have hA := fun W => cshift 0 d (m.toNat % 256) (by omega) c v W
  generalize sh3 0 d (m.toNat % 256) c v = x at *
  have HA := Lib.hid hA
  clear hA e
  generalize m.toNat % 256 = y at *
  go_enter Tryd.func88, Tryd.ntmps88
  go_wp2_with fail
  refine (HA.out _).mono ?_
  rintro e w1 ⟨rfl, hb⟩
  have HB := Lib.hid (show Below w.heap.size w w1 from (Below.trans (((Below.refl _ _).alloc (Nat.le_refl _) _).alloc (by simp) _) (hb.mono (by simp; omega))))
  have hk : Blk w1 (w.heap.size + 1) 128 #[.bool false, .bool false] := by
    have h0 := Blk.new (w.alloc (.cells #[.bool c, .bool v] 128)) 128 #[.bool false, .bool false]
    simp only [World.size_alloc] at h0
    exact h0.below hb (by simp)
  have k0 := hk.cell 0; have k1 := hk.cell 1; have f0 := hk.frozen 0; have f1 := hk.frozen 1
  have HK := Lib.hid hk
  clear hb hk
  go_wp2_with fail
  obtain ⟨hB, hU⟩ := blk2 HK.out (.bool x.c) (.bool x.v)
  have HL := Lib.hid (upd_low HB.out hU (Nat.le_succ _))
  generalize (w1.setCell ⟨w.heap.size + 1, 0, none⟩ (.bool x.c)).setCell ⟨w.heap.size + 1, 1, none⟩ (.bool x.v) = WW at *
  have r0 : WW.cell? ⟨w.heap.size + 1, 0, none⟩ = some (.bool x.c) := hB.cell 0
  have r1 : WW.cell? ⟨w.heap.size + 1, 1, none⟩ = some (.bool x.v) := hB.cell 1
  refine bodyPost_ret (v := rV x) (by simp [results, Tryd.results88, go_sem, r0, r1]) rfl ⟨rfl, HL.out⟩
set_option maxRecDepth 100000 in
set_option maxHeartbeats 1000000 in
theorem walu3 (d m : BitVec 32) (c v : Bool) (w : World) : Calls Tryd.prog 88 #[.int .i64 3, u d, u m, .agg #[.bool c, .bool v]] w fun e w' => e = .returned (rV (alu3 3 d m c v)) ∧ Below w.heap.size w w' := by
  have h1 := bd d; have h2 := bd m
  have h255 := and255 m
  have hlt : m.toNat % 256 < 256 := Nat.mod_lt _ (by decide)
  have e : alu3 3 d m c v = sh3 1 d (m.toNat % 256) c v := rfl
  rw [e]
  have hA := fun W => cshift 1 d (m.toNat % 256) (by omega) c v W
  generalize sh3 1 d (m.toNat % 256) c v = x at *
  have HA := Lib.hid hA
  clear hA e
  generalize m.toNat % 256 = y at *
  go_enter Tryd.func88, Tryd.ntmps88
  go_wp2_with fail
  refine (HA.out _).mono ?_
  rintro e w1 ⟨rfl, hb⟩
  have HB := Lib.hid (show Below w.heap.size w w1 from (Below.trans (((Below.refl _ _).alloc (Nat.le_refl _) _).alloc (by simp) _) (hb.mono (by simp; omega))))
  have hk : Blk w1 (w.heap.size + 1) 128 #[.bool false, .bool false] := by
    have h0 := Blk.new (w.alloc (.cells #[.bool c, .bool v] 128)) 128 #[.bool false, .bool false]
    simp only [World.size_alloc] at h0
    exact h0.below hb (by simp)
  have k0 := hk.cell 0; have k1 := hk.cell 1; have f0 := hk.frozen 0; have f1 := hk.frozen 1
  have HK := Lib.hid hk
  clear hb hk
  go_wp2_with fail
  obtain ⟨hB, hU⟩ := blk2 HK.out (.bool x.c) (.bool x.v)
  have HL := Lib.hid (upd_low HB.out hU (Nat.le_succ _))
  generalize (w1.setCell ⟨w.heap.size + 1, 0, none⟩ (.bool x.c)).setCell ⟨w.heap.size + 1, 1, none⟩ (.bool x.v) = WW at *
  have r0 : WW.cell? ⟨w.heap.size + 1, 0, none⟩ = some (.bool x.c) := hB.cell 0
  have r1 : WW.cell? ⟨w.heap.size + 1, 1, none⟩ = some (.bool x.v) := hB.cell 1
  refine bodyPost_ret (v := rV x) (by simp [results, Tryd.results88, go_sem, r0, r1]) rfl ⟨rfl, HL.out⟩
set_option maxRecDepth 100000 in
set_option maxHeartbeats 1000000 in
theorem walu4 (d m : BitVec 32) (c v : Bool) (w : World) : Calls Tryd.prog 88 #[.int .i64 4, u d, u m, .agg #[.bool c, .bool v]] w fun e w' => e = .returned (rV (alu3 4 d m c v)) ∧ Below w.heap.size w w' := by
  have h1 := bd d; have h2 := bd m
  have h255 := and255 m
  have hlt : m.toNat % 256 < 256 := Nat.mod_lt _ (by decide)
  have e : alu3 4 d m c v = sh3 2 d (m.toNat % 256) c v := rfl
  rw [e]
  have hA := fun W => cshift 2 d (m.toNat % 256) (by omega) c v W
  generalize sh3 2 d (m.toNat % 256) c v = x at *
  have HA := Lib.hid hA
  clear hA e
  generalize m.toNat % 256 = y at *
  go_enter Tryd.func88, Tryd.ntmps88
  go_wp2_with fail
  refine (HA.out _).mono ?_
  rintro e w1 ⟨rfl, hb⟩
  have HB := Lib.hid (show Below w.heap.size w w1 from (Below.trans (((Below.refl _ _).alloc (Nat.le_refl _) _).alloc (by simp) _) (hb.mono (by simp; omega))))
  have hk : Blk w1 (w.heap.size + 1) 128 #[.bool false, .bool false] := by
    have h0 := Blk.new (w.alloc (.cells #[.bool c, .bool v] 128)) 128 #[.bool false, .bool false]
    simp only [World.size_alloc] at h0
    exact h0.below hb (by simp)
  have k0 := hk.cell 0; have k1 := hk.cell 1; have f0 := hk.frozen 0; have f1 := hk.frozen 1
  have HK := Lib.hid hk
  clear hb hk
  go_wp2_with fail
  obtain ⟨hB, hU⟩ := blk2 HK.out (.bool x.c) (.bool x.v)
  have HL := Lib.hid (upd_low HB.out hU (Nat.le_succ _))
  generalize (w1.setCell ⟨w.heap.size + 1, 0, none⟩ (.bool x.c)).setCell ⟨w.heap.size + 1, 1, none⟩ (.bool x.v) = WW at *
  have r0 : WW.cell? ⟨w.heap.size + 1, 0, none⟩ = some (.bool x.c) := hB.cell 0
  have r1 : WW.cell? ⟨w.heap.size + 1, 1, none⟩ = some (.bool x.v) := hB.cell 1
  refine bodyPost_ret (v := rV x) (by simp [results, Tryd.results88, go_sem, r0, r1]) rfl ⟨rfl, HL.out⟩
set_option maxRecDepth 100000 in
set_option maxHeartbeats 1000000 in
theorem walu5 (d m : BitVec 32) (c v : Bool) (w : World) : Calls Tryd.prog 88 #[.int .i64 5, u d, u m, .agg #[.bool c, .bool v]] w fun e w' => e = .returned (rV (alu3 5 d m c v)) ∧ Below w.heap.size w w' := by
  have h1 := bd d; have h2 := bd m
  have h255 := and255 m
  have hlt : m.toNat % 256 < 256 := Nat.mod_lt _ (by decide)
  have e : alu3 5 d m c v = sum3 d m c := rfl
  rw [e]
  have hA := fun W => csum d m c W
  generalize sum3 d m c = x at *
  have HA := Lib.hid hA
  clear hA e
  generalize m.toNat % 256 = y at *
  go_enter Tryd.func88, Tryd.ntmps88
  go_wp2_with fail
  refine (HA.out _).mono ?_
  rintro e w1 ⟨rfl, hb⟩
  have HB := Lib.hid (show Below w.heap.size w w1 from (Below.trans (((Below.refl _ _).alloc (Nat.le_refl _) _).alloc (by simp) _) (hb.mono (by simp; omega))))
  have hk : Blk w1 (w.heap.size + 1) 128 #[.bool false, .bool false] := by
    have h0 := Blk.new (w.alloc (.cells #[.bool c, .bool v] 128)) 128 #[.bool false, .bool false]
    simp only [World.size_alloc] at h0
    exact h0.below hb (by simp)
  have k0 := hk.cell 0; have k1 := hk.cell 1; have f0 := hk.frozen 0; have f1 := hk.frozen 1
  have HK := Lib.hid hk
  clear hb hk
  go_wp2_with fail
  obtain ⟨hB, hU⟩ := blk2 HK.out (.bool x.c) (.bool x.v)
  have HL := Lib.hid (upd_low HB.out hU (Nat.le_succ _))
  generalize (w1.setCell ⟨w.heap.size + 1, 0, none⟩ (.bool x.c)).setCell ⟨w.heap.size + 1, 1, none⟩ (.bool x.v) = WW at *
  have r0 : WW.cell? ⟨w.heap.size + 1, 0, none⟩ = some (.bool x.c) := hB.cell 0
  have r1 : WW.cell? ⟨w.heap.size + 1, 1, none⟩ = some (.bool x.v) := hB.cell 1
  refine bodyPost_ret (v := rV x) (by simp [results, Tryd.results88, go_sem, r0, r1]) rfl ⟨rfl, HL.out⟩
set_option maxRecDepth 100000 in
set_option maxHeartbeats 1000000 in
theorem walu6 (d m : BitVec 32) (c v : Bool) (w : World) : Calls Tryd.prog 88 #[.int .i64 6, u d, u m, .agg #[.bool c, .bool v]] w fun e w' => e = .returned (rV (alu3 6 d m c v)) ∧ Below w.heap.size w w' := by
  have h1 := bd d; have h2 := bd m
  have h255 := and255 m
  have hlt : m.toNat % 256 < 256 := Nat.mod_lt _ (by decide)
  have e : alu3 6 d m c v = sum3 d (~~~m) c := rfl
  rw [e]
  have hn := un_not m
  clear e
  generalize ~~~m = nm at *
  have hA := fun W => csum d (nm) c W
  generalize sum3 d (nm) c = x at *
  have HA := Lib.hid hA
  clear hA
  generalize m.toNat % 256 = y at *
  go_enter Tryd.func88, Tryd.ntmps88
  go_wp2_with fail
  refine (HA.out _).mono ?_
  rintro e w1 ⟨rfl, hb⟩
  have HB := Lib.hid (show Below w.heap.size w w1 from (Below.trans (((Below.refl _ _).alloc (Nat.le_refl _) _).alloc (by simp) _) (hb.mono (by simp; omega))))
  have hk : Blk w1 (w.heap.size + 1) 128 #[.bool false, .bool false] := by
    have h0 := Blk.new (w.alloc (.cells #[.bool c, .bool v] 128)) 128 #[.bool false, .bool false]
    simp only [World.size_alloc] at h0
    exact h0.below hb (by simp)
  have k0 := hk.cell 0; have k1 := hk.cell 1; have f0 := hk.frozen 0; have f1 := hk.frozen 1
  have HK := Lib.hid hk
  clear hb hk
  go_wp2_with fail
  obtain ⟨hB, hU⟩ := blk2 HK.out (.bool x.c) (.bool x.v)
  have HL := Lib.hid (upd_low HB.out hU (Nat.le_succ _))
  generalize (w1.setCell ⟨w.heap.size + 1, 0, none⟩ (.bool x.c)).setCell ⟨w.heap.size + 1, 1, none⟩ (.bool x.v) = WW at *
  have r0 : WW.cell? ⟨w.heap.size + 1, 0, none⟩ = some (.bool x.c) := hB.cell 0
  have r1 : WW.cell? ⟨w.heap.size + 1, 1, none⟩ = some (.bool x.v) := hB.cell 1
  refine bodyPost_ret (v := rV x) (by simp [results, Tryd.results88, go_sem, r0, r1]) rfl ⟨rfl, HL.out⟩
set_option maxRecDepth 100000 in
set_option maxHeartbeats 1000000 in
theorem walu7 (d m : BitVec 32) (c v : Bool) (w : World) : Calls Tryd.prog 88 #[.int .i64 7, u d, u m, .agg #[.bool c, .bool v]] w fun e w' => e = .returned (rV (alu3 7 d m c v)) ∧ Below w.heap.size w w' := by
  have h1 := bd d; have h2 := bd m
  have h255 := and255 m
  have hlt : m.toNat % 256 < 256 := Nat.mod_lt _ (by decide)
  have e : alu3 7 d m c v = sh3 3 d (m.toNat % 256) c v := rfl
  rw [e]
  have hA := fun W => cshift 3 d (m.toNat % 256) (by omega) c v W
  generalize sh3 3 d (m.toNat % 256) c v = x at *
  have HA := Lib.hid hA
  clear hA e
  generalize m.toNat % 256 = y at *
  go_enter Tryd.func88, Tryd.ntmps88
  go_wp2_with fail
  refine (HA.out _).mono ?_
  rintro e w1 ⟨rfl, hb⟩
  have HB := Lib.hid (show Below w.heap.size w w1 from (Below.trans (((Below.refl _ _).alloc (Nat.le_refl _) _).alloc (by simp) _) (hb.mono (by simp; omega))))
  have hk : Blk w1 (w.heap.size + 1) 128 #[.bool false, .bool false] := by
    have h0 := Blk.new (w.alloc (.cells #[.bool c, .bool v] 128)) 128 #[.bool false, .bool false]
    simp only [World.size_alloc] at h0
    exact h0.below hb (by simp)
  have k0 := hk.cell 0; have k1 := hk.cell 1; have f0 := hk.frozen 0; have f1 := hk.frozen 1
  have HK := Lib.hid hk
  clear hb hk
  go_wp2_with fail
  obtain ⟨hB, hU⟩ := blk2 HK.out (.bool x.c) (.bool x.v)
  have HL := Lib.hid (upd_low HB.out hU (Nat.le_succ _))
  generalize (w1.setCell ⟨w.heap.size + 1, 0, none⟩ (.bool x.c)).setCell ⟨w.heap.size + 1, 1, none⟩ (.bool x.v) = WW at *
  have r0 : WW.cell? ⟨w.heap.size + 1, 0, none⟩ = some (.bool x.c) := hB.cell 0
  have r1 : WW.cell? ⟨w.heap.size + 1, 1, none⟩ = some (.bool x.v) := hB.cell 1
  refine bodyPost_ret (v := rV x) (by simp [results, Tryd.results88, go_sem, r0, r1]) rfl ⟨rfl, HL.out⟩
set_option maxRecDepth 100000 in
set_option maxHeartbeats 1000000 in
theorem walu8 (d m : BitVec 32) (c v : Bool) (w : World) : Calls Tryd.prog 88 #[.int .i64 8, u d, u m, .agg #[.bool c, .bool v]] w fun e w' => e = .returned (rV (alu3 8 d m c v)) ∧ Below w.heap.size w w' := by
  have h1 := bd d; have h2 := bd m
  have h255 := and255 m
  have hlt : m.toNat % 256 < 256 := Nat.mod_lt _ (by decide)
  have e : alu3 8 d m c v = ⟨d &&& m, c, v⟩ := rfl
  rw [e]
  have hx := b_and d m
  generalize d &&& m = x at *
  generalize m.toNat % 256 = y at *
  go_enter Tryd.func88, Tryd.ntmps88
  go_wp2_with fail
  go_region
  all_goals
    go_wp2_with fail
    refine bodyPost_ret (v := .tuple #[u x, .agg #[.bool c, .bool v]]) (by simp [results, Tryd.results88, go_sem]) rfl ⟨rfl, ?_⟩
    exact (by repeat (first | exact Below.refl _ _ | (with_reducible refine Below.setCell ?_ (by simp) _) | (with_reducible refine Below.alloc ?_ (by simp) _) | (with_reducible refine Below.drew ?_)))
set_option maxRecDepth 100000 in
set_option maxHeartbeats 1000000 in
theorem walu9 (d m : BitVec 32) (c v : Bool) (w : World) : Calls Tryd.prog 88 #[.int .i64 9, u d, u m, .agg #[.bool c, .bool v]] w fun e w' => e = .returned (rV (alu3 9 d m c v)) ∧ Below w.heap.size w w' := by
  have h1 := bd d; have h2 := bd m
  have h255 := and255 m
  have hlt : m.toNat % 256 < 256 := Nat.mod_lt _ (by decide)
  have e : alu3 9 d m c v = sum3 0 (~~~m) true := rfl
  rw [e]
  have hA := fun W => cless 0 m W
  generalize sum3 0 (~~~m) true = x at *
  have HA := Lib.hid hA
  clear hA e
  generalize m.toNat % 256 = y at *
  go_enter Tryd.func88, Tryd.ntmps88
  go_wp2_with fail
  refine (HA.out _).mono ?_
  rintro e w1 ⟨rfl, hb⟩
  have HB := Lib.hid (show Below w.heap.size w w1 from (Below.trans (((Below.refl _ _).alloc (Nat.le_refl _) _).alloc (by simp) _) (hb.mono (by simp; omega))))
  have hk : Blk w1 (w.heap.size + 1) 128 #[.bool false, .bool false] := by
    have h0 := Blk.new (w.alloc (.cells #[.bool c, .bool v] 128)) 128 #[.bool false, .bool false]
    simp only [World.size_alloc] at h0
    exact h0.below hb (by simp)
  have k0 := hk.cell 0; have k1 := hk.cell 1; have f0 := hk.frozen 0; have f1 := hk.frozen 1
  have HK := Lib.hid hk
  clear hb hk
  go_wp2_with fail
  obtain ⟨hB, hU⟩ := blk2 HK.out (.bool x.c) (.bool x.v)
  have HL := Lib.hid (upd_low HB.out hU (Nat.le_succ _))
  generalize (w1.setCell ⟨w.heap.size + 1, 0, none⟩ (.bool x.c)).setCell ⟨w.heap.size + 1, 1, none⟩ (.bool x.v) = WW at *
  have r0 : WW.cell? ⟨w.heap.size + 1, 0, none⟩ = some (.bool x.c) := hB.cell 0
  have r1 : WW.cell? ⟨w.heap.size + 1, 1, none⟩ = some (.bool x.v) := hB.cell 1
  refine bodyPost_ret (v := rV x) (by simp [results, Tryd.results88, go_sem, r0, r1]) rfl ⟨rfl, HL.out⟩
set_option maxRecDepth 100000 in
set_option maxHeartbeats 1000000 in
theorem walu10 (d m : BitVec 32) (c v : Bool) (w : World) : Calls Tryd.prog 88 #[.int .i64 10, u d, u m, .agg #[.bool c, .bool v]] w fun e w' => e = .returned (rV (alu3 10 d m c v)) ∧ Below w.heap.size w w' := by
  have h1 := bd d; have h2 := bd m
  have h255 := and255 m
  have hlt : m.toNat % 256 < 256 := Nat.mod_lt _ (by decide)
  have e : alu3 10 d m c v = sum3 d (~~~m) true := rfl
  rw [e]
  have hA := fun W => cless d m W
  generalize sum3 d (~~~m) true = x at *
  have HA := Lib.hid hA
  clear hA e
  generalize m.toNat % 256 = y at *
  go_enter Tryd.func88, Tryd.ntmps88
  go_wp2_with fail
  refine (HA.out _).mono ?_
  rintro e w1 ⟨rfl, hb⟩
  have HB := Lib.hid (show Below w.heap.size w w1 from (Below.trans (((Below.refl _ _).alloc (Nat.le_refl _) _).alloc (by simp) _) (hb.mono (by simp; omega))))
  have hk : Blk w1 (w.heap.size + 1) 128 #[.bool false, .bool false] := by
    have h0 := Blk.new (w.alloc (.cells #[.bool c, .bool v] 128)) 128 #[.bool false, .bool false]
    simp only [World.size_alloc] at h0
    exact h0.below hb (by simp)
  have k0 := hk.cell 0; have k1 := hk.cell 1; have f0 := hk.frozen 0; have f1 := hk.frozen 1
  have HK := Lib.hid hk
  clear hb hk
  go_wp2_with fail
  obtain ⟨hB, hU⟩ := blk2 HK.out (.bool x.c) (.bool x.v)
  have HL := Lib.hid (upd_low HB.out hU (Nat.le_succ _))
  generalize (w1.setCell ⟨w.heap.size + 1, 0, none⟩ (.bool x.c)).setCell ⟨w.heap.size + 1, 1, none⟩ (.bool x.v) = WW at *
  have r0 : WW.cell? ⟨w.heap.size + 1, 0, none⟩ = some (.bool x.c) := hB.cell 0
  have r1 : WW.cell? ⟨w.heap.size + 1, 1, none⟩ = some (.bool x.v) := hB.cell 1
  refine bodyPost_ret (v := rV x) (by simp [results, Tryd.results88, go_sem, r0, r1]) rfl ⟨rfl, HL.out⟩
set_option maxRecDepth 100000 in
set_option maxHeartbeats 1000000 in
theorem walu11 (d m : BitVec 32) (c v : Bool) (w : World) : Calls Tryd.prog 88 #[.int .i64 11, u d, u m, .agg #[.bool c, .bool v]] w fun e w' => e = .returned (rV (alu3 11 d m c v)) ∧ Below w.heap.size w w' := by
  have h1 := bd d; have h2 := bd m
  have h255 := and255 m
  have hlt : m.toNat % 256 < 256 := Nat.mod_lt _ (by decide)
  have e : alu3 11 d m c v = sum3 d m false := rfl
  rw [e]
  have hA := fun W => csum d m false W
  generalize sum3 d m false = x at *
  have HA := Lib.hid hA
  clear hA e
  generalize m.toNat % 256 = y at *
  go_enter Tryd.func88, Tryd.ntmps88
  go_wp2_with fail
  refine (HA.out _).mono ?_
  rintro e w1 ⟨rfl, hb⟩
  have HB := Lib.hid (show Below w.heap.size w w1 from (Below.trans (((Below.refl _ _).alloc (Nat.le_refl _) _).alloc (by simp) _) (hb.mono (by simp; omega))))
  have hk : Blk w1 (w.heap.size + 1) 128 #[.bool false, .bool false] := by
    have h0 := Blk.new (w.alloc (.cells #[.bool c, .bool v] 128)) 128 #[.bool false, .bool false]
    simp only [World.size_alloc] at h0
    exact h0.below hb (by simp)
  have k0 := hk.cell 0; have k1 := hk.cell 1; have f0 := hk.frozen 0; have f1 := hk.frozen 1
  have HK := Lib.hid hk
  clear hb hk
  go_wp2_with fail
  obtain ⟨hB, hU⟩ := blk2 HK.out (.bool x.c) (.bool x.v)
  have HL := Lib.hid (upd_low HB.out hU (Nat.le_succ _))
  generalize (w1.setCell ⟨w.heap.size + 1, 0, none⟩ (.bool x.c)).setCell ⟨w.heap.size + 1, 1, none⟩ (.bool x.v) = WW at *
  have r0 : WW.cell? ⟨w.heap.size + 1, 0, none⟩ = some (.bool x.c) := hB.cell 0
  have r1 : WW.cell? ⟨w.heap.size + 1, 1, none⟩ = some (.bool x.v) := hB.cell 1
  refine bodyPost_ret (v := rV x) (by simp [results, Tryd.results88, go_sem, r0, r1]) rfl ⟨rfl, HL.out⟩
set_option maxRecDepth 100000 in
set_option maxHeartbeats 1000000 in
theorem walu12 (d m : BitVec 32) (c v : Bool) (w : World) : Calls Tryd.prog 88 #[.int .i64 12, u d, u m, .agg #[.bool c, .bool v]] w fun e w' => e = .returned (rV (alu3 12 d m c v)) ∧ Below w.heap.size w w' := by
  have h1 := bd d; have h2 := bd m
  have h255 := and255 m
  have hlt : m.toNat % 256 < 256 := Nat.mod_lt _ (by decide)
  have e : alu3 12 d m c v = ⟨d ||| m, c, v⟩ := rfl
  rw [e]
  have hx := b_or d m
  generalize d ||| m = x at *
  generalize m.toNat % 256 = y at *
  go_enter Tryd.func88, Tryd.ntmps88
  go_wp2_with fail
  go_region
  all_goals
    go_wp2_with fail
    refine bodyPost_ret (v := .tuple #[u x, .agg #[.bool c, .bool v]]) (by simp [results, Tryd.results88, go_sem]) rfl ⟨rfl, ?_⟩
    exact (by repeat (first | exact Below.refl _ _ | (with_reducible refine Below.setCell ?_ (by simp) _) | (with_reducible refine Below.alloc ?_ (by simp) _) | (with_reducible refine Below.drew ?_)))
set_option maxRecDepth 100000 in
set_option maxHeartbeats 1000000 in
theorem walu13 (d m : BitVec 32) (c v : Bool) (w : World) : Calls Tryd.prog 88 #[.int .i64 13, u d, u m, .agg #[.bool c, .bool v]] w fun e w' => e = .returned (rV (alu3 13 d m c v)) ∧ Below w.heap.size w w' := by
  have h1 := bd d; have h2 := bd m
  have h255 := and255 m
  have hlt : m.toNat % 256 < 256 := Nat.mod_lt _ (by decide)
  have e : alu3 13 d m c v = ⟨d * m, c, v⟩ := rfl
  rw [e]
  have hx : IntKind.u32.wrap ((d.toNat : Int) * (m.toNat : Int)) = ((d * m).toNat : Int) := by rw [IntKind.wrap_u32, BitVec.toNat_mul, Int.natCast_emod, Int.natCast_mul]; rfl
  have hx2 : ((d.toNat : Int) * (m.toNat : Int)) % 4294967296 = ((d * m).toNat : Int) := by rw [BitVec.toNat_mul, Int.natCast_emod, Int.natCast_mul]; rfl
  generalize d * m = x at *
  generalize m.toNat % 256 = y at *
  go_enter Tryd.func88, Tryd.ntmps88
  go_wp2_with fail
  go_region
  all_goals
    go_wp2_with fail
    refine bodyPost_ret (v := .tuple #[u x, .agg #[.bool c, .bool v]]) (by simp [results, Tryd.results88, go_sem]) rfl ⟨rfl, ?_⟩
    exact (by repeat (first | exact Below.refl _ _ | (with_reducible refine Below.setCell ?_ (by simp) _) | (with_reducible refine Below.alloc ?_ (by simp) _) | (with_reducible refine Below.drew ?_)))
set_option maxRecDepth 100000 in
set_option maxHeartbeats 1000000 in
theorem walu14 (d m : BitVec 32) (c v : Bool) (w : World) : Calls Tryd.prog 88 #[.int .i64 14, u d, u m, .agg #[.bool c, .bool v]] w fun e w' => e = .returned (rV (alu3 14 d m c v)) ∧ Below w.heap.size w w' := by
  have h1 := bd d; have h2 := bd m
  have h255 := and255 m
  have hlt : m.toNat % 256 < 256 := Nat.mod_lt _ (by decide)
  have e : alu3 14 d m c v = ⟨d &&& ~~~m, c, v⟩ := rfl
  rw [e]
  have hx := b_andNot d m
  generalize d &&& ~~~m = x at *
  generalize m.toNat % 256 = y at *
  go_enter Tryd.func88, Tryd.ntmps88
  go_wp2_with fail
  go_region
  all_goals
    go_wp2_with fail
    refine bodyPost_ret (v := .tuple #[u x, .agg #[.bool c, .bool v]]) (by simp [results, Tryd.results88, go_sem]) rfl ⟨rfl, ?_⟩
    exact (by repeat (first | exact Below.refl _ _ | (with_reducible refine Below.setCell ?_ (by simp) _) | (with_reducible refine Below.alloc ?_ (by simp) _) | (with_reducible refine Below.drew ?_)))
set_option maxRecDepth 100000 in
set_option maxHeartbeats 1000000 in
theorem walu15 (d m : BitVec 32) (c v : Bool) (w : World) : Calls Tryd.prog 88 #[.int .i64 15, u d, u m, .agg #[.bool c, .bool v]] w fun e w' => e = .returned (rV (alu3 15 d m c v)) ∧ Below w.heap.size w w' := by
  have h1 := bd d; have h2 := bd m
  have h255 := and255 m
  have hlt : m.toNat % 256 < 256 := Nat.mod_lt _ (by decide)
  have e : alu3 15 d m c v = ⟨~~~m, c, v⟩ := rfl
  rw [e]
  have hx := un_not m
  generalize ~~~m = x at *
  generalize m.toNat % 256 = y at *
  go_enter Tryd.func88, Tryd.ntmps88
  go_wp2_with fail
  go_region
  all_goals
    go_wp2_with fail
    refine bodyPost_ret (v := .tuple #[u x, .agg #[.bool c, .bool v]]) (by simp [results, Tryd.results88, go_sem]) rfl ⟨rfl, ?_⟩
    exact (by repeat (first | exact Below.refl _ _ | (with_reducible refine Below.setCell ?_ (by simp) _) | (with_reducible refine Below.alloc ?_ (by simp) _) | (with_reducible refine Below.drew ?_)))
theorem calu (k : Nat) (hk : k < 16) (d m : BitVec 32) (c v : Bool) (w : World) : Calls Tryd.prog 88 #[.int .i64 k, u d, u m, .agg #[.bool c, .bool v]] w fun e w' => e = .returned (rV (alu3 k d m c v)) ∧ Below w.heap.size w w' := by
  have hr : k = 0 ∨ k = 1 ∨ k = 2 ∨ k = 3 ∨ k = 4 ∨ k = 5 ∨ k = 6 ∨ k = 7 ∨ k = 8 ∨ k = 9 ∨ k = 10 ∨ k = 11 ∨ k = 12 ∨ k = 13 ∨ k = 14 ∨ k = 15 := by omega
  rcases hr with rfl | rfl | rfl | rfl | rfl | rfl | rfl | rfl | rfl | rfl | rfl | rfl | rfl | rfl | rfl | rfl
  · exact walu0 d m c v w
  · exact walu1 d m c v w
  · exact walu2 d m c v w
  · exact walu3 d m c v w
  · exact walu4 d m c v w
  · exact walu5 d m c v w
  · exact walu6 d m c v w
  · exact walu7 d m c v w
  · exact walu8 d m c v w
  · exact walu9 d m c v w
  · exact walu10 d m c v w
  · exact walu11 d m c v w
  · exact walu12 d m c v w
  · exact walu13 d m c v w
  · exact walu14 d m c v w
  · exact walu15 d m c v w
end Go.Proofs.YtkafmpdjpjgkgaaDoor.Co
