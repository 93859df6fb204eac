/- DERIVED. CoAd in one text. By an AI agent. -/
import Derived.Test.YtkafmpdjpjgkgaaDoorZ11
import Derived.Test.YtkafmpdjpjgkgaaDoorZ09
/- DERIVED. Contracts of the program's following and address. By an AI agent. -/
namespace Go.Proofs.YtkafmpdjpjgkgaaDoor.Co
open Go.ChangeShapes Go.WideShapes Go.ChangeAt Go.RowKit WMath Word Ref Args
set_option linter.unusedVariables false
set_option linter.unusedSimpArgs false
theorem wrap_ofInt (i : Int) : IntKind.u32.wrap i = ((BitVec.ofInt 32 i).toNat : Int) := by
  rw [IntKind.wrap_u32, BitVec.toNat_ofInt]; omega
/-- Where the next instruction is. -/
def nextV (op : Nat) (D : Nat) (imm : BitVec 32) (s : S) : BitVec 32 :=
  if op = 17 ∨ (op = 18 ∧ holdsB D s = true) then s.pc + 4#32 + 2#32 * imm else s.pc + 2#32
/-- Where is loaded, or stored. -/
def addrV (op N M : Nat) (imm : BitVec 32) (s : S) : BitVec 32 :=
  if op = 16 then ((s.pc + 4#32) &&& ~~~3#32) + 4#32 * imm else if op = 14 ∨ op = 15 then s.r N + s.r M else s.r N + 4#32 * imm
theorem next_pc (pc : BitVec 32) : ((pc.toNat : Int) + 2) % 4294967296 = ((pc + 2#32).toNat : Int) := by
  rw [BitVec.toNat_add, show (2#32).toNat = 2 from rfl]; omega
theorem add_w (a b : BitVec 32) : ((a.toNat : Int) + (b.toNat : Int)) % 4294967296 = ((a + b).toNat : Int) := by
  rw [BitVec.toNat_add]; omega
theorem four_w (a : BitVec 32) : (4 * (a.toNat : Int)) % 4294967296 = ((4#32 * a).toNat : Int) := by
  rw [BitVec.toNat_mul, show (4#32).toNat = 4 from rfl]; omega
theorem two_w (a : BitVec 32) : (2 * (a.toNat : Int)) % 4294967296 = ((2#32 * a).toNat : Int) := by
  rw [BitVec.toNat_mul, show (2#32).toNat = 2 from rfl]; omega
theorem pc4 (a : BitVec 32) : ((a.toNat : Int) + 4) % 4294967296 = ((a + 4#32).toNat : Int) := by
  rw [BitVec.toNat_add, show (4#32).toNat = 4 from rfl]; omega
theorem not3 (a : BitVec 32) : bits .andNot .u32 (a.toNat : Int) 3 = ((a &&& ~~~3#32).toNat : Int) := b_andNot a 3#32
set_option maxRecDepth 100000 in
set_option maxHeartbeats 2000000 in
theorem fol17 (op D N M : Nat) (i : Int) (s : S) (ho : op = 17) (w : World) : Calls Tryd.prog 73 #[.agg (iC op D N M i), sv s] w fun e w' => e = .returned (u (nextV op D (BitVec.ofInt 32 i) s)) ∧ Below w.heap.size w w' := by
  subst ho
  have e : nextV 17 D (BitVec.ofInt 32 i) s = s.pc + 4#32 + 2#32 * BitVec.ofInt 32 i := rfl
  rw [e]
  have hw := wrap_ofInt i
  have hpc := bd s.pc
  have h1 := pc4 s.pc
  have h2 := two_w (BitVec.ofInt 32 i)
  have h3 := add_w (s.pc + 4#32) (2#32 * BitVec.ofInt 32 i)
  generalize BitVec.ofInt 32 i = imm at *
  generalize s.pc + 4#32 = p4 at *
  generalize 2#32 * imm = i2 at *
  generalize p4 + i2 = r at *
  have g1 : IntKind.u32.wrap ((s.pc.toNat : Int) + 4) = (p4.toNat : Int) := by rw [IntKind.wrap_u32]; exact h1
  have g2 : IntKind.u32.wrap (2 * (imm.toNat : Int)) = (i2.toNat : Int) := by rw [IntKind.wrap_u32]; exact h2
  have g3 : IntKind.u32.wrap ((p4.toNat : Int) + (i2.toNat : Int)) = (r.toNat : Int) := by rw [IntKind.wrap_u32]; exact h3
  clear e
  go_enter Tryd.func73, Tryd.ntmps73
  go_wp2_with fail
  go_ret
  exact ⟨rfl, (by repeat (first | exact Below.refl _ _ | (with_reducible refine Below.setCell ?_ (by simp) _) | (with_reducible refine Below.alloc ?_ (by simp) _) | (with_reducible refine Below.drew ?_)))⟩
set_option maxRecDepth 100000 in
set_option maxHeartbeats 2000000 in
theorem fol18y (op D N M : Nat) (i : Int) (s : S) (ho : op = 18) (hh : holdsB D s = true) (w : World) : Calls Tryd.prog 73 #[.agg (iC op D N M i), sv s] w fun e w' => e = .returned (u (nextV op D (BitVec.ofInt 32 i) s)) ∧ Below w.heap.size w w' := by
  subst ho
  have e : nextV 18 D (BitVec.ofInt 32 i) s = s.pc + 4#32 + 2#32 * BitVec.ofInt 32 i := by unfold nextV; rw [if_pos (.inr ⟨rfl, hh⟩)]
  rw [e]
  have hw := wrap_ofInt i
  have hpc := bd s.pc
  have h1 := pc4 s.pc
  have h2 := two_w (BitVec.ofInt 32 i)
  have h3 := add_w (s.pc + 4#32) (2#32 * BitVec.ofInt 32 i)
  generalize BitVec.ofInt 32 i = imm at *
  generalize s.pc + 4#32 = p4 at *
  generalize 2#32 * imm = i2 at *
  generalize p4 + i2 = r at *
  have g1 : IntKind.u32.wrap ((s.pc.toNat : Int) + 4) = (p4.toNat : Int) := by rw [IntKind.wrap_u32]; exact h1
  have g2 : IntKind.u32.wrap (2 * (imm.toNat : Int)) = (i2.toNat : Int) := by rw [IntKind.wrap_u32]; exact h2
  have g3 : IntKind.u32.wrap ((p4.toNat : Int) + (i2.toNat : Int)) = (r.toNat : Int) := by rw [IntKind.wrap_u32]; exact h3
  have hA := fun W => holds D s W
  rw [hh] at hA
  have HA := Lib.hid hA
  clear e hA hh
  go_enter Tryd.func73, Tryd.ntmps73
  go_wp2_with fail
  refine (HA.out _).mono ?_
  rintro e w1 ⟨rfl, hb⟩
  have HB := Lib.hid (show Below w.heap.size w w1 from (((Below.refl _ _).alloc (Nat.le_refl _) _).alloc (by simp) _).trans (hb.mono (by simp; omega)))
  have hk : Blk w1 w.heap.size 58 (iC 18 D N M i) := ((Blk.new w 58 (iC 18 D N M i)).alloc _).below hb (by simp; omega)
  have hk2 : Blk w1 (w.heap.size + 1) 51 (sC s) := by
    have h0 := Blk.new (w.alloc (.cells (iC 18 D N M i) 58)) 51 (sC s)
    simp only [World.size_alloc] at h0
    exact h0.below hb (by simp)
  have k4 := hk.cell 4
  have k8 := hk2.cell 8
  simp at k4 k8
  clear hk hk2 hb
  go_wp2_with fail
  go_ret
  exact ⟨rfl, HB.out⟩
set_option maxRecDepth 100000 in
set_option maxHeartbeats 2000000 in
theorem fol18n (op D N M : Nat) (i : Int) (s : S) (ho : op = 18) (hh : holdsB D s = false) (w : World) : Calls Tryd.prog 73 #[.agg (iC op D N M i), sv s] w fun e w' => e = .returned (u (nextV op D (BitVec.ofInt 32 i) s)) ∧ Below w.heap.size w w' := by
  subst ho
  have e : nextV 18 D (BitVec.ofInt 32 i) s = s.pc + 2#32 := by unfold nextV; rw [if_neg (by simp [hh])]
  rw [e]
  have hpc := bd s.pc
  have g1 : IntKind.u32.wrap ((s.pc.toNat : Int) + 2) = ((s.pc + 2#32).toNat : Int) := by rw [IntKind.wrap_u32]; exact next_pc s.pc
  generalize s.pc + 2#32 = r at *
  have hA := fun W => holds D s W
  rw [hh] at hA
  have HA := Lib.hid hA
  clear e hA hh
  go_enter Tryd.func73, Tryd.ntmps73
  go_wp2_with fail
  refine (HA.out _).mono ?_
  rintro e w1 ⟨rfl, hb⟩
  have HB := Lib.hid (show Below w.heap.size w w1 from (((Below.refl _ _).alloc (Nat.le_refl _) _).alloc (by simp) _).trans (hb.mono (by simp; omega)))
  have hk2 : Blk w1 (w.heap.size + 1) 51 (sC s) := by
    have h0 := Blk.new (w.alloc (.cells (iC 18 D N M i) 58)) 51 (sC s)
    simp only [World.size_alloc] at h0
    exact h0.below hb (by simp)
  have k8 := hk2.cell 8
  simp at k8
  clear hk2 hb
  go_wp2_with fail
  go_ret
  exact ⟨rfl, HB.out⟩
set_option maxRecDepth 100000 in
set_option maxHeartbeats 2000000 in
theorem folno (op D N M : Nat) (i : Int) (s : S) (h17 : op ≠ 17) (h18 : op ≠ 18) (w : World) : Calls Tryd.prog 73 #[.agg (iC op D N M i), sv s] w fun e w' => e = .returned (u (nextV op D (BitVec.ofInt 32 i) s)) ∧ Below w.heap.size w w' := by
  have e : nextV op D (BitVec.ofInt 32 i) s = s.pc + 2#32 := by unfold nextV; rw [if_neg (by simp [h17, h18])]
  rw [e]
  have hpc := bd s.pc
  have g1 : IntKind.u32.wrap ((s.pc.toNat : Int) + 2) = ((s.pc + 2#32).toNat : Int) := by rw [IntKind.wrap_u32]; exact next_pc s.pc
  generalize s.pc + 2#32 = r at *
  have e17 : ((op : Int) == 17) = false := by simp; omega
  have e18 : ((op : Int) == 18) = false := by simp; omega
  clear e h17 h18
  go_enter Tryd.func73, Tryd.ntmps73
  go_wp2_with fail
  go_ret
  exact ⟨rfl, (by repeat (first | exact Below.refl _ _ | (with_reducible refine Below.setCell ?_ (by simp) _) | (with_reducible refine Below.alloc ?_ (by simp) _) | (with_reducible refine Below.drew ?_)))⟩
theorem following (op D N M : Nat) (i : Int) (s : S) (w : World) : Calls Tryd.prog 73 #[.agg (iC op D N M i), sv s] w fun e w' => e = .returned (u (nextV op D (BitVec.ofInt 32 i) s)) ∧ Below w.heap.size w w' := by
  by_cases h17 : op = 17
  · exact fol17 op D N M i s h17 w
  by_cases h18 : op = 18
  · cases hh : holdsB D s with
    | true => exact fol18y op D N M i s h18 hh w
    | false => exact fol18n op D N M i s h18 hh w
  exact folno op D N M i s h17 h18 w
set_option maxRecDepth 100000 in
set_option maxHeartbeats 2000000 in
theorem adr16 (op D N M : Nat) (hN : N < 8) (hM : M < 8) (i : Int) (s : S) (ho : op = 16) (w : World) : Calls Tryd.prog 75 #[.agg (iC op D N M i), sv s] w fun e w' => e = .returned (u (addrV op N M (BitVec.ofInt 32 i) s)) ∧ Below w.heap.size w w' := by
  subst ho
  have e : addrV 16 N M (BitVec.ofInt 32 i) s = ((s.pc + 4#32) &&& ~~~3#32) + 4#32 * BitVec.ofInt 32 i := rfl
  rw [e]
  have hw := wrap_ofInt i
  have hpc := bd s.pc
  have h1 := pc4 s.pc
  have h2 := four_w (BitVec.ofInt 32 i)
  have h4 := not3 (s.pc + 4#32)
  have h3 := add_w ((s.pc + 4#32) &&& ~~~3#32) (4#32 * BitVec.ofInt 32 i)
  generalize BitVec.ofInt 32 i = imm at *
  generalize s.pc + 4#32 = p4 at *
  generalize p4 &&& ~~~3#32 = q4 at *
  generalize 4#32 * imm = i2 at *
  generalize q4 + i2 = r at *
  have g1 : IntKind.u32.wrap ((s.pc.toNat : Int) + 4) = (p4.toNat : Int) := by rw [IntKind.wrap_u32]; exact h1
  have g2 : IntKind.u32.wrap (4 * (imm.toNat : Int)) = (i2.toNat : Int) := by rw [IntKind.wrap_u32]; exact h2
  have g3 : IntKind.u32.wrap ((q4.toNat : Int) + (i2.toNat : Int)) = (r.toNat : Int) := by rw [IntKind.wrap_u32]; exact h3
  clear e
  go_enter Tryd.func75, Tryd.ntmps75
  go_wp2_with fail
  go_ret
  exact ⟨rfl, (by repeat (first | exact Below.refl _ _ | (with_reducible refine Below.setCell ?_ (by simp) _) | (with_reducible refine Below.alloc ?_ (by simp) _) | (with_reducible refine Below.drew ?_)))⟩
set_option maxRecDepth 100000 in
set_option maxHeartbeats 2000000 in
theorem adr1415 (op D N M : Nat) (hN : N < 8) (hM : M < 8) (i : Int) (s : S) (ho : op = 14 ∨ op = 15) (w : World) : Calls Tryd.prog 75 #[.agg (iC op D N M i), sv s] w fun e w' => e = .returned (u (addrV op N M (BitVec.ofInt 32 i) s)) ∧ Below w.heap.size w w' := by
  have e : addrV op N M (BitVec.ofInt 32 i) s = s.r N + s.r M := by unfold addrV; rw [if_neg (by omega), if_pos ho]
  rw [e]
  have hr1 := bd (s.r N); have hr2 := bd (s.r M)
  have g1 : IntKind.u32.wrap (((s.r N).toNat : Int) + ((s.r M).toNat : Int)) = ((s.r N + s.r M).toNat : Int) := by rw [IntKind.wrap_u32]; exact add_w _ _
  generalize s.r N + s.r M = r at *
  clear e
  rcases ho with rfl | rfl
  · have hN2 : (N : Int) < 8 := by omega
    have hM2 : (M : Int) < 8 := by omega
    have hb1 := Blk.new (w.alloc (.cells (iC 14 D N M i) 58)) 51 (sC s)
    have hb0 := (Blk.new w 58 (iC 14 D N M i)).alloc (.cells (sC s) 51)
    simp only [World.size_alloc] at hb1
    have hbel : Below w.heap.size w ((w.alloc (.cells (iC 14 D N M i) 58)).alloc (.cells (sC s) 51)) := ((Below.refl _ _).alloc (Nat.le_refl _) _).alloc (by simp) _
    have HBL := Lib.hid hbel; have HB0 := Lib.hid hb0; have HB1 := Lib.hid hb1
    clear hbel hb0 hb1
    obtain ⟨W0, hW0⟩ : ∃ W0, W0 = (w.alloc (.cells (iC 14 D N M i) 58)).alloc (.cells (sC s) 51) := ⟨_, rfl⟩
    have HW0 := Lib.hid hW0
    rw [← hW0] at HBL HB0 HB1
    clear hW0
    go_enter Tryd.func75, Tryd.ntmps75
    go_wp2_with fail
    rw [← HW0.out]
    clear HW0
    have i0 : W0.cell? ⟨w.heap.size, 0, none⟩ = some (.int .i64 14) := HB0.out.cell 0
    have i2 : W0.cell? ⟨w.heap.size, 2, none⟩ = some (.int .i64 N) := HB0.out.cell 2
    have i3 : W0.cell? ⟨w.heap.size, 3, none⟩ = some (.int .i64 M) := HB0.out.cell 3
    have i4 : W0.cell? ⟨w.heap.size, 4, none⟩ = some (.int .i64 i) := HB0.out.cell 4
    have s1 := HB1.out.reg N hN
    have s2 := HB1.out.reg M hM
    go_quiet (fail)
    go_wp2_with fail
    go_ret
    exact ⟨rfl, below_drewN HBL.out _⟩
  · have hN2 : (N : Int) < 8 := by omega
    have hM2 : (M : Int) < 8 := by omega
    have hb1 := Blk.new (w.alloc (.cells (iC 15 D N M i) 58)) 51 (sC s)
    have hb0 := (Blk.new w 58 (iC 15 D N M i)).alloc (.cells (sC s) 51)
    simp only [World.size_alloc] at hb1
    have hbel : Below w.heap.size w ((w.alloc (.cells (iC 15 D N M i) 58)).alloc (.cells (sC s) 51)) := ((Below.refl _ _).alloc (Nat.le_refl _) _).alloc (by simp) _
    have HBL := Lib.hid hbel; have HB0 := Lib.hid hb0; have HB1 := Lib.hid hb1
    clear hbel hb0 hb1
    obtain ⟨W0, hW0⟩ : ∃ W0, W0 = (w.alloc (.cells (iC 15 D N M i) 58)).alloc (.cells (sC s) 51) := ⟨_, rfl⟩
    have HW0 := Lib.hid hW0
    rw [← hW0] at HBL HB0 HB1
    clear hW0
    go_enter Tryd.func75, Tryd.ntmps75
    go_wp2_with fail
    rw [← HW0.out]
    clear HW0
    have i0 : W0.cell? ⟨w.heap.size, 0, none⟩ = some (.int .i64 15) := HB0.out.cell 0
    have i2 : W0.cell? ⟨w.heap.size, 2, none⟩ = some (.int .i64 N) := HB0.out.cell 2
    have i3 : W0.cell? ⟨w.heap.size, 3, none⟩ = some (.int .i64 M) := HB0.out.cell 3
    have i4 : W0.cell? ⟨w.heap.size, 4, none⟩ = some (.int .i64 i) := HB0.out.cell 4
    have s1 := HB1.out.reg N hN
    have s2 := HB1.out.reg M hM
    go_quiet (fail)
    go_wp2_with fail
    go_ret
    exact ⟨rfl, below_drewN HBL.out _⟩
set_option maxRecDepth 100000 in
set_option maxHeartbeats 2000000 in
theorem adrels (op D N M : Nat) (hN : N < 8) (hM : M < 8) (i : Int) (s : S) (ho : op = 12 ∨ op = 13) (w : World) : Calls Tryd.prog 75 #[.agg (iC op D N M i), sv s] w fun e w' => e = .returned (u (addrV op N M (BitVec.ofInt 32 i) s)) ∧ Below w.heap.size w w' := by
  have e : addrV op N M (BitVec.ofInt 32 i) s = s.r N + 4#32 * BitVec.ofInt 32 i := by unfold addrV; rw [if_neg (by omega), if_neg (by omega)]
  rw [e]
  have hw := wrap_ofInt i
  have hr1 := bd (s.r N)
  have h2 := four_w (BitVec.ofInt 32 i)
  have h3 := add_w (s.r N) (4#32 * BitVec.ofInt 32 i)
  generalize BitVec.ofInt 32 i = imm at *
  generalize 4#32 * imm = i4 at *
  generalize s.r N + i4 = r at *
  have g2 : IntKind.u32.wrap (4 * (imm.toNat : Int)) = (i4.toNat : Int) := by rw [IntKind.wrap_u32]; exact h2
  have g3 : IntKind.u32.wrap (((s.r N).toNat : Int) + (i4.toNat : Int)) = (r.toNat : Int) := by rw [IntKind.wrap_u32]; exact h3
  have e16 : ((op : Int) == 16) = false := by simp; omega
  have e14 : ((op : Int) == 14) = false := by simp; omega
  have e15 : ((op : Int) == 15) = false := by simp; omega
  clear e ho
  have hN2 : (N : Int) < 8 := by omega
  have hM2 : (M : Int) < 8 := by omega
  have hb1 := Blk.new (w.alloc (.cells (iC op D N M i) 58)) 51 (sC s)
  have hb0 := (Blk.new w 58 (iC op D N M i)).alloc (.cells (sC s) 51)
  simp only [World.size_alloc] at hb1
  have hbel : Below w.heap.size w ((w.alloc (.cells (iC op D N M i) 58)).alloc (.cells (sC s) 51)) := ((Below.refl _ _).alloc (Nat.le_refl _) _).alloc (by simp) _
  have HBL := Lib.hid hbel; have HB0 := Lib.hid hb0; have HB1 := Lib.hid hb1
  clear hbel hb0 hb1
  obtain ⟨W0, hW0⟩ : ∃ W0, W0 = (w.alloc (.cells (iC op D N M i) 58)).alloc (.cells (sC s) 51) := ⟨_, rfl⟩
  have HW0 := Lib.hid hW0
  rw [← hW0] at HBL HB0 HB1
  clear hW0
  go_enter Tryd.func75, Tryd.ntmps75
  go_wp2_with fail
  rw [← HW0.out]
  clear HW0
  have i0 : W0.cell? ⟨w.heap.size, 0, none⟩ = some (.int .i64 op) := HB0.out.cell 0
  have i2 : W0.cell? ⟨w.heap.size, 2, none⟩ = some (.int .i64 N) := HB0.out.cell 2
  have i3 : W0.cell? ⟨w.heap.size, 3, none⟩ = some (.int .i64 M) := HB0.out.cell 3
  have i4 : W0.cell? ⟨w.heap.size, 4, none⟩ = some (.int .i64 i) := HB0.out.cell 4
  have s1 := HB1.out.reg N hN
  have s2 := HB1.out.reg M hM
  go_quiet (fail)
  go_wp2_with fail
  go_ret
  exact ⟨rfl, below_drewN HBL.out _⟩
theorem address (op D N M : Nat) (hN : N < 8) (hM : M < 8) (i : Int) (s : S) (ho : 12 ≤ op ∧ op ≤ 16) (w : World) : Calls Tryd.prog 75 #[.agg (iC op D N M i), sv s] w fun e w' => e = .returned (u (addrV op N M (BitVec.ofInt 32 i) s)) ∧ Below w.heap.size w w' := by
  by_cases h16 : op = 16
  · exact adr16 op D N M hN hM i s h16 w
  by_cases h14 : op = 14 ∨ op = 15
  · exact adr1415 op D N M hN hM i s h14 w
  exact adrels op D N M hN hM i s (by omega) w
end Go.Proofs.YtkafmpdjpjgkgaaDoor.Co
