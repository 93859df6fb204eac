/- DERIVED. LkSw, LkR, LkSwa in one text. By an AI agent. -/
import Derived.Test.YtcigchpcffpemaaDoorZ24
import Derived.Test.YtcigchpcffpemaaDoorZ32
import Derived.Test.YtcigchpcffpemaaDoorZ33
import Derived.Test.YtcigchpcffpemaaDoorZ05
import Derived.Test.YtcigchpcffpemaaDoorZ34
import Derived.Test.YtcigchpcffpemaaDoorZ35
import Derived.Test.YtcigchpcffpemaaDoorZ36
import Derived.Test.YtcigchpcffpemaaDoorZ37
import Derived.Test.YtcigchpcffpemaaDoorZ38
import Derived.Test.YtcigchpcffpemaaDoorZ45
/- DERIVED. The walk of LeakSteps. By an AI agent. -/
namespace Go.Proofs.YtcigchpcffpemaaDoor.Lk
open Go.ChangeShapes Go.WideShapes Go.ChangeAt Go.RowKit WMath Word Ref Args Mm MmR Co
set_option linter.unusedVariables false
set_option linter.unusedSimpArgs false
def codeT (hh : Int) : List Int := [1, 2, hh, 3, 4]
theorem fitT (hh : Int) (h0 : 0 ≤ hh) (h1 : hh < 65536) : Fit ⟨codeT hh, noughts 4, [7, 8], 0, 0⟩ :=
  ⟨fun z hz => by simp [codeT] at hz; omega, noughts_in 4, fun z hz => by simp at hz; omega, Nat.zero_le _, ⟨Int.le_refl _, show (0 : Int) < 4294967296 by decide⟩, show 5 ≤ 60000 by decide, show (noughts 4).length ≤ 16000 by decide, show 2 ≤ 140737488351232 by decide⟩
set_option maxRecDepth 100000 in
set_option maxHeartbeats 4000000 in
theorem stepsNo (W : World) (op d n m imm : Int) (s : S) (a0 a1 a2 a3 : BitVec 32) (hT : Tp.Tb W) (hc : ThRef.canB op d n m imm = false) :
    Calls Tryd.prog 3 #[ThRef.ins op d n m imm, sv s, .agg #[u a0, u a1, u a2, u a3]] W fun e w' => e = .returned (.bool true) ∧ Below W.heap.size W w' := by
  have hp := fun w => ThRef.put op d n m imm w
  have hv : ThRef.putV op d n m imm = .tuple #[.int .u16 0, .int .i64 1] := by unfold ThRef.putV; rw [hc]; rfl
  rw [hv] at hp
  obtain ⟨_, hbel⟩ := lb_new W s a0 a1 a2 a3 #[.int .i64 op, .int .i64 d, .int .i64 n, .int .i64 m, .int .i64 imm] 23
  have HP := Lib.hid hp; have HT := Lib.hid hT; have HB := Lib.hid hbel
  clear hp hT hbel hv hc
  go_enter Tryd.func3, Tryd.ntmps3
  go_wp2_with fail
  refine (HP.out _).mono ?_
  rintro e w1 ⟨rfl, hb⟩
  have HB1 := Lib.hid (HB.out.trans (hb.mono HB.out.size))
  clear hb HB HP
  go_wp2_with fail
  refine (lives _ (HT.out.below HB1.out)).mono ?_
  rintro e w2 ⟨rfl, hb⟩
  have HB2 := Lib.hid (HB1.out.trans (hb.mono HB1.out.size))
  clear hb
  go_wp2_with fail
  go_ret
  exact ⟨rfl, HB2.out⟩
set_option maxRecDepth 100000 in
set_option maxHeartbeats 8000000 in
theorem stepsYes (rlstep : ∀ (s : S) (n0 : Nat) (h : Hd) (m : St) (w : World), RP n0 h m w → Calls Tryd.prog 15 #[sv s, ptr h.r] w (RkEnd n0 h (leakV s m) w)) (W : World) (op d n m imm : Int) (s : S) (a0 a1 a2 a3 : BitVec 32) (hT : Tp.Tb W) (hh : Int) (h0 : 0 ≤ hh) (h1 : hh < 65536) (hv : ThRef.putV op d n m imm = .tuple #[.int .u16 hh, .int .i64 0]) :
    Calls Tryd.prog 3 #[ThRef.ins op d n m imm, sv s, .agg #[u a0, u a1, u a2, u a3]] W fun e w' => e = .returned (.bool true) ∧ Below W.heap.size W w' := by
  have hp := fun w => ThRef.put op d n m imm w
  rw [hv] at hp
  obtain ⟨hlb, hbel⟩ := lb_new W s a0 a1 a2 a3 #[.int .i64 op, .int .i64 d, .int .i64 n, .int .i64 m, .int .i64 imm] 23
  have HP := Lib.hid hp; have HT := Lib.hid hT; have HB := Lib.hid hbel; have HLB := Lib.hid hlb; have HF := Lib.hid (fitT hh h0 h1)
  clear hp hT hbel hv hlb h0 h1
  go_enter Tryd.func3, Tryd.ntmps3
  go_wp2_with fail
  refine (HP.out _).mono ?_
  rintro e w1 ⟨rfl, hb⟩
  have HB1 := Lib.hid (HB.out.trans (hb.mono HB.out.size))
  have HL1 := Lib.hid (HLB.out.below hb)
  clear hb HB HP HLB
  have n8 : w1.cell? ⟨W.heap.size + 1, 8, none⟩ = some (u s.pc) := HL1.out.b1.cell 8
  have f8 : w1.frozen? ⟨W.heap.size + 1, 8, none⟩ = false := HL1.out.b1.frozen 8
  go_upto_region 5 with fail
  have hU := upd_set w1 (W.heap.size + 1) 8 (u 4#32) (Upd.refl _ w1)
  have hK1 := blk_one (cs' := sC (s.to 4#32)) HL1.out.b1 8 (u 4#32) rfl
  have HL3 := Lib.hid (show Lb W (s.to 4#32) a0 a1 a2 a3 (w1.setCell ⟨W.heap.size + 1, 8, none⟩ (u 4#32)) from ⟨hK1, HL1.out.b2.upd hU (by omega)⟩)
  have HB3 := Lib.hid (upd_low HB1.out hU (by omega))
  obtain ⟨w3, hw3⟩ : ∃ w3, w1.setCell ⟨W.heap.size + 1, 8, none⟩ (.int .u32 4) = w3 := ⟨_, rfl⟩
  rw [hw3]
  have hw3' : w1.setCell ⟨W.heap.size + 1, 8, none⟩ (u 4#32) = w3 := hw3
  rw [hw3'] at HL3 HB3
  clear hw3 hw3' hU hK1 HL1 HB1 n8 f8
  obtain ⟨s0, hs0⟩ : ∃ s0, s.to 4#32 = s0 := ⟨_, rfl⟩
  rw [hs0] at HL3
  clear hs0
  have c0 : w3.cell? ⟨W.heap.size + 1 + 1, 0, none⟩ = some (u a0) := HL3.out.b2.cell 0
  have c1 : w3.cell? ⟨W.heap.size + 1 + 1, 1, none⟩ = some (u a1) := HL3.out.b2.cell 1
  have c2 : w3.cell? ⟨W.heap.size + 1 + 1, 2, none⟩ = some (u a2) := HL3.out.b2.cell 2
  have c3 : w3.cell? ⟨W.heap.size + 1 + 1, 3, none⟩ = some (u a3) := HL3.out.b2.cell 3
  have hgc : W.heap.size + 1 + 1 < w3.heap.size := HL3.out.b2.lt
  go_wp2_with fail
  have hx3 : Below w3.heap.size w3 (w3.alloc (.cells ((codeT hh).map (Value.int .u16)).toArray 29)) := (Below.refl _ _).alloc (Nat.le_refl _) _
  refine (both (some ⟨w3.heap.size, 0, none⟩) 5 (codeT hh) a0 a1 a2 a3 _ (lies_new w3 .u16 29 (codeT hh)) (by decide : 5 ≤ 10) (by decide : 5 ≤ 5) (by decide) HF.out).mono ?_
  rintro e w4 ⟨h, h', n1, n2, rfl, hbo⟩
  have HL4 := Lib.hid (HL3.out.below (hx3.trans (hbo.lo.mono (by simp))))
  have HQ1 := Lib.hid (show W.heap.size + 1 + 1 < n1 from by have h1 := HL3.out.b2.lt; have h2 := hbo.l1; simp only [World.size_alloc] at h2; omega)
  have HI4 := Lib.hid (show Bo W n1 n2 h h' (mset (af a0 a1 a2 a3) 4 ⟨codeT hh, noughts 4, [7, 8], 0, 0⟩) w4 from ⟨hbo.p, hbo.r, (HB3.out.trans (hx3.mono HB3.out.size)).trans (hbo.lo.mono (by have := HB3.out.size; simp; omega)), hbo.sep, by have := HQ1.out; omega, hbo.l2⟩)
  clear hx3 hbo c0 c1 c2 c3 hgc HL3 HB3 HF
  generalize mset (af a0 a1 a2 a3) 4 ⟨codeT hh, noughts 4, [7, 8], 0, 0⟩ = m0 at *
  go_wp2_with fail
  refine (Mm.load n1 h m0 _ 0 HI4.out.p).mono ?_
  rintro e w5 ⟨rfl, hp5, hu5⟩
  have HP5 := Lib.hid hp5; have HU5 := Lib.hid hu5
  have HR5 := Lib.hid (HI4.out.r.upd hu5 HI4.out.pr)
  have HL5 := Lib.hid (show Lb W s0 a0 a1 a2 a3 w5 from ⟨HI4.out.box1 HL4.out.b1 (by have := HQ1.out; omega) hu5, HI4.out.box1 HL4.out.b2 HQ1.out hu5⟩)
  clear hp5 hu5 HL4
  go_wp2_with fail
  refine (MmR.load n2 h' m0 _ 0 (by decide) (by decide) HR5.out).mono ?_
  rintro e w6 ⟨rfl, hr6, hu6⟩
  have HI := Lib.hid (Bo.both HI4.out HP5.out HU5.out hr6 hu6)
  have HL := Lib.hid (show Lb W s0 a0 a1 a2 a3 w6 from ⟨HI4.out.box2 HL5.out.b1 (by have := HQ1.out; omega) hu6, HI4.out.box2 HL5.out.b2 HQ1.out hu6⟩)
  clear hr6 hu6 HP5 HU5 HR5 HL5 HI4
  generalize loadS m0 0 = m1 at *
  rcases hq : leakV s0 m1 with ⟨x, l, st, er, m2⟩
  have hcs := lstep s0 n1 h m1 w6 HI.out.p W HT.out HI.out.lo HI.out.l1
  have hrs := fun w p => rlstep s0 n2 h' m1 w p
  rw [hq] at hcs hrs
  have HCS := Lib.hid hcs; have HRS := Lib.hid hrs
  clear hcs hrs hq
  obtain ⟨n0', n1', n2', n3, n4, n5, n6, n7, n8, n9, n10, n11, n12⟩ := Blk.cells13 HL.out.b1
  go_wp2_with fail
  refine HCS.out.mono ?_
  rintro e w7 ⟨rfl, hp7, hu7⟩
  have HP7 := Lib.hid hp7; have HU7 := Lib.hid hu7
  have HR7 := Lib.hid (HI.out.r.upd hu7 HI.out.pr)
  have HL7 := Lib.hid (show Lb W s0 a0 a1 a2 a3 w7 from ⟨HI.out.box1 HL.out.b1 (by have := HQ1.out; omega) hu7, HI.out.box1 HL.out.b2 HQ1.out hu7⟩)
  clear hp7 hu7 n0' n1' n2' n3 n4 n5 n6 n7 n8 n9 n10 n11 n12 HCS
  go_upto_region 11 with fail
  have hx : Below w7.heap.size w7 ((w7.alloc (.cells (sC x) 27)).alloc (.cells (lC l) 42)) := ((Below.refl _ _).alloc (Nat.le_refl _) _).alloc (by simp) _
  have hkx : Blk ((w7.alloc (.cells (sC x) 27)).alloc (.cells (lC l) 42)) w7.heap.size 27 (sC x) := (Blk.new w7 27 (sC x)).alloc _
  have hkl : Blk ((w7.alloc (.cells (sC x) 27)).alloc (.cells (lC l) 42)) (w7.heap.size + 1) 42 (lC l) := by
    have := Blk.new (w7.alloc (.cells (sC x) 27)) 42 (lC l)
    simpa only [World.size_alloc] using this
  have HP8 := Lib.hid (PM.below HP7.out hx)
  have HR8 := Lib.hid (PM.below HR7.out hx)
  have HL8 := Lib.hid (HL7.out.below hx)
  have HU8 := Lib.hid (HU7.out.trans (Upd.of_below hx h.X))
  have HKX := Lib.hid hkx; have HKL := Lib.hid hkl
  have HXB := Lib.hid (show ∀ q, h'.X q → q < w7.heap.size from fun q hq => (HR7.out.lt (Hd.XB hq)).2)
  obtain ⟨w8, hw8⟩ : ∃ w8, (w7.alloc (.cells (sC x) 27)).alloc (.cells (lC l) 42) = w8 := ⟨_, rfl⟩
  rw [hw8] at HP8 HR8 HL8 HU8 HKX HKL
  have hw8' : (w7.alloc (.cells #[u (x.r 0), u (x.r 1), u (x.r 2), u (x.r 3), u (x.r 4), u (x.r 5), u (x.r 6), u (x.r 7), u x.pc, .bool x.n, .bool x.z, .bool x.c, .bool x.v] 27)).alloc (.cells #[u l.pc, .int .u16 (l.h : Int), u l.a, u l.b, u l.r, u l.o, u l.bus, u l.ad, .bool l.me, .bool l.rn] 42) = w8 := hw8
  rw [hw8']
  generalize w7.heap.size = gx at *
  clear hw8 hw8' hx hkx hkl HP7 HR7 HL7 HU7
  obtain ⟨n0', n1', n2', n3, n4, n5, n6, n7, n8, n9, n10, n11, n12⟩ := Blk.cells13 HL8.out.b1
  go_wp2_with fail
  refine (HRS.out _ HR8.out).mono ?_
  rintro e w9 ⟨rfl, hr9, hu9⟩
  have HI9 := Lib.hid (Bo.both HI.out HP8.out HU8.out hr9 hu9)
  have HX9 := Lib.hid (HKX.out.upd hu9 (fun hq => by have := HXB.out _ hq; omega))
  have HZ9 := Lib.hid (HKL.out.upd hu9 (fun hq => by have := HXB.out _ hq; omega))
  clear hr9 hu9 n0' n1' n2' n3 n4 n5 n6 n7 n8 n9 n10 n11 n12 HRS HP8 HR8 HL8 HU8 HKX HKL HXB HI HL
  go_upto_region 12 with fail
  have hx : Below w9.heap.size w9 ((w9.alloc (.cells (sC x) 27)).alloc (.cells (lC l) 42)) := ((Below.refl _ _).alloc (Nat.le_refl _) _).alloc (by simp) _
  have hkx : Blk ((w9.alloc (.cells (sC x) 27)).alloc (.cells (lC l) 42)) w9.heap.size 27 (sC x) := (Blk.new w9 27 (sC x)).alloc _
  have hkl : Blk ((w9.alloc (.cells (sC x) 27)).alloc (.cells (lC l) 42)) (w9.heap.size + 1) 42 (lC l) := by
    have := Blk.new (w9.alloc (.cells (sC x) 27)) 42 (lC l)
    simpa only [World.size_alloc] using this
  have HI10 := Lib.hid (Bo.ext HI9.out hx)
  have HX10 := Lib.hid (Blk.below HX9.out hx HX9.out.lt)
  have HZ10 := Lib.hid (Blk.below HZ9.out hx HZ9.out.lt)
  have HKX := Lib.hid hkx; have HKL := Lib.hid hkl
  obtain ⟨w10, hw10⟩ : ∃ w10, (w9.alloc (.cells (sC x) 27)).alloc (.cells (lC l) 42) = w10 := ⟨_, rfl⟩
  rw [hw10] at HI10 HX10 HZ10 HKX HKL
  have hw10' : (w9.alloc (.cells #[u (x.r 0), u (x.r 1), u (x.r 2), u (x.r 3), u (x.r 4), u (x.r 5), u (x.r 6), u (x.r 7), u x.pc, .bool x.n, .bool x.z, .bool x.c, .bool x.v] 27)).alloc (.cells #[u l.pc, .int .u16 (l.h : Int), u l.a, u l.b, u l.r, u l.o, u l.bus, u l.ad, .bool l.me, .bool l.rn] 42) = w10 := hw10
  rw [hw10']
  generalize w9.heap.size = gy at *
  clear hw10 hw10' hx hkx hkl HI9 HX9 HZ9
  obtain ⟨n0', n1', n2', n3, n4, n5, n6, n7, n8, n9, n10, n11, n12⟩ := Blk.cells13 HX10.out
  obtain ⟨m0', m1', m2', m3, m4, m5, m6, m7, m8, m9, m10, m11, m12⟩ := Blk.cells13 HKX.out
  obtain ⟨y0, y1, y2, y3, y4, y5, y6, y7, y8, y9⟩ := Blk.cells10 HZ10.out
  obtain ⟨x0, x1, x2, x3', x4', x5', x6', x7', x8', x9'⟩ := Blk.cells10 HKL.out
  have hEq := eq_state x
  have hEl := eq_leak l
  have hG : Tryd.prog.eqGuardType Tryd.prog.depth 27 = false := by kernel_rfl
  have hG2 : Tryd.prog.eqGuardType Tryd.prog.depth 42 = false := by kernel_rfl
  go_wp2_with fail
  refine (lives _ (HT.out.below HI10.out.lo)).mono ?_
  rintro e w11 ⟨rfl, hb⟩
  have HB11 := Lib.hid (HI10.out.lo.trans (hb.mono HI10.out.lo.size))
  clear hb n0' n1' n2' n3 n4 n5 n6 n7 n8 n9 n10 n11 n12 m0' m1' m2' m3 m4 m5 m6 m7 m8 m9 m10 m11 m12 y0 y1 y2 y3 y4 y5 y6 y7 y8 y9 x0 x1 x2 x3' x4' x5' x6' x7' x8' x9'
  go_wp2_with fail
  go_ret
  exact ⟨rfl, HB11.out⟩
end Go.Proofs.YtcigchpcffpemaaDoor.Lk
/- DERIVED. The contract of the reference's leak.Step, whole. By an AI agent. -/
namespace Go.Proofs.YtcigchpcffpemaaDoor.Lk
open Go.ChangeShapes Go.WideShapes Go.ChangeAt Go.RowKit WMath Word Ref Args Mm MmR Co
set_option linter.unusedVariables false
set_option linter.unusedSimpArgs false
/-- A store that is no error is not at the port. -/
theorem no_port {s : S} {m : St} (hf : Fit m) (h : (stepV s m).2.2.1 = 0) {f k D N M : Nat} {i : Int} (hfe : fetchV m (s.pc.toNat : Int) = ((f : Int), 0)) (ht : Tp.takeF 21 0 f = (k, ⟨D, N, M, i⟩, 0)) (hk : k = 13 ∨ k = 15) : (addrV k N M (BitVec.ofInt 32 i) s == 1073741824#32) = false := by
  have e : stepV s m = if k = 20 then (s, true, 0, m) else if (doS k D N M i s m).2.1 = 0 then ((doS k D N M i s m).1, false, 0, (doS k D N M i s m).2.2) else (s, false, (doS k D N M i s m).2.1, (doS k D N M i s m).2.2) := by
    unfold stepV
    rw [hfe, if_pos rfl]
    simp only [Int.toNat_natCast]
    rw [ht, if_pos rfl]
    simp only [Int.toNat_natCast]
  have hd : (doS k D N M i s m).2.1 = storeE m ((addrV k N M (BitVec.ofInt 32 i) s).toNat : Int) := by
    unfold doS
    rw [if_neg (by omega), if_neg (by omega), if_pos hk]
  rw [e, if_neg (by omega), hd] at h
  have hs : storeE m ((addrV k N M (BitVec.ofInt 32 i) s).toNat : Int) = 0 := by
    by_cases h0 : storeE m ((addrV k N M (BitVec.ofInt 32 i) s).toNat : Int) = 0
    · exact h0
    · rw [if_neg h0] at h
      exact h
  by_cases hp : addrV k N M (BitVec.ofInt 32 i) s = 1073741824#32
  · rw [hp] at hs
    have := store_port m hf
    have h2 : storeE m 1073741824 = 0 := hs
    omega
  · simpa using hp
theorem rlstep (s : S) (n0 : Nat) (h : Hd) (m : St) (w : World) (p : RP n0 h m w) : Calls Tryd.prog 15 #[sv s, ptr h.r] w (RkEnd n0 h (leakV s m) w) := by
  by_cases he : (stepV s m).2.2.1 = 0
  · obtain ⟨f, k, D, N, M, i, hf, hfe, htf, hw, hlk⟩ := step_ok s m p.fit he
    have hl : leakV s m = ⟨(stepV s m).1, lkOf s m (stepV s m).1, (stepV s m).2.1, 0, (stepV s m).2.2.2⟩ := by unfold leakV; rw [if_pos he]
    have hc := stepV_C s m
    have hC := fun W p => rstep s n0 h m W p
    have hnp := fun hk => no_port p.fit he hfe htf hk
    rw [hl, hlk]
    rcases hq : stepV s m with ⟨x, st, er, m2⟩
    rw [hq] at hC he hc
    have he2 : er = 0 := he
    subst he2
    have hfe2 : fetchV m2 (s.pc.toNat : Int) = ((f : Int), 0) := by rw [fetchV_C hc, hfe]
    have hlt := hw.lt
    have hr : k = 0 ∨ k = 1 ∨ k = 2 ∨ k = 3 ∨ k = 4 ∨ k = 5 ∨ k = 6 ∨ k = 7 ∨ k = 8 ∨ k = 9 ∨ k = 10 ∨ k = 11 ∨ k = 12 ∨ k = 13 ∨ k = 14 ∨ k = 15 ∨ k = 16 ∨ k = 17 ∨ k = 18 ∨ k = 19 ∨ k = 20 := by omega
    clear hlt hlk hl hq hfe hc he
    rcases hr with rfl | rfl | rfl | rfl | rfl | rfl | rfl | rfl | rfl | rfl | rfl | rfl | rfl | rfl | rfl | rfl | rfl | rfl | rfl | rfl | rfl
    · exact rlk0 s x st n0 h m m2 w p hC f hf hfe2 D N M i hw htf
    · exact rlk1 s x st n0 h m m2 w p hC f hf hfe2 D N M i hw htf
    · exact rlk2 s x st n0 h m m2 w p hC f hf hfe2 2 D N M i hw htf (by decide)
    · exact rlk2 s x st n0 h m m2 w p hC f hf hfe2 3 D N M i hw htf (by decide)
    · exact rlk4 s x st n0 h m m2 w p hC f hf hfe2 4 D N M i hw htf (by decide)
    · exact rlk4 s x st n0 h m m2 w p hC f hf hfe2 5 D N M i hw htf (by decide)
    · exact rlk4 s x st n0 h m m2 w p hC f hf hfe2 6 D N M i hw htf (by decide)
    · exact rlk7 s x st n0 h m m2 w p hC f hf hfe2 D N M i hw htf
    · exact rlk8 s x st n0 h m m2 w p hC f hf hfe2 D N M i hw htf
    · exact rlk9 s x st n0 h m m2 w p hC f hf hfe2 D N M i hw htf
    · exact rlk10 s x st n0 h m m2 w p hC f hf hfe2 D N M i hw htf
    · by_cases h8 : i = 8
      · subst h8; exact rlk11_8 s x st n0 h m m2 w p hC f hf hfe2 D N M hw htf
      by_cases h10 : i = 10
      · subst h10; exact rlk11_10 s x st n0 h m m2 w p hC f hf hfe2 D N M hw htf
      by_cases h11 : i = 11
      · subst h11; exact rlk11_11 s x st n0 h m m2 w p hC f hf hfe2 D N M hw htf
      exact rlk11 s x st n0 h m m2 w p hC f hf hfe2 D N M i hw htf h8 h10 h11
    · exact rlk12 s x st n0 h m m2 w p hC f hf hfe2 D N M i hw htf
    · exact rlk13 s x st n0 h m m2 w p hC f hf hfe2 D N M i hw htf (hnp (.inl rfl))
    · exact rlk14 s x st n0 h m m2 w p hC f hf hfe2 D N M i hw htf
    · exact rlk15 s x st n0 h m m2 w p hC f hf hfe2 D N M i hw htf (hnp (.inr rfl))
    · exact rlk16 s x st n0 h m m2 w p hC f hf hfe2 D N M i hw htf
    · exact rlk17 s x st n0 h m m2 w p hC f hf hfe2 17 D N M i hw htf (by decide)
    · exact rlk17 s x st n0 h m m2 w p hC f hf hfe2 18 D N M i hw htf (by decide)
    · exact rlk17 s x st n0 h m m2 w p hC f hf hfe2 19 D N M i hw htf (by decide)
    · exact rlk17 s x st n0 h m m2 w p hC f hf hfe2 20 D N M i hw htf (by decide)
  · exact rlstepE s n0 h m w p (fun W p => rstep s n0 h m W p) he
end Go.Proofs.YtcigchpcffpemaaDoor.Lk
/- DERIVED. LeakSteps, whole. By an AI agent. -/
namespace Go.Proofs.YtcigchpcffpemaaDoor.Lk
open Go.ChangeShapes Go.WideShapes Go.ChangeAt Go.RowKit WMath Word Ref Args Mm MmR Co
set_option linter.unusedVariables false
theorem leakSteps.walk (W : World) (op d n m imm : Int) (_hw : (Lit.int .i64 op).wf = true ∧ (Lit.int .i64 d).wf = true ∧ (Lit.int .i64 n).wf = true ∧ (Lit.int .i64 m).wf = true ∧ (Lit.int .i64 imm).wf = true) (s : S) (a0 a1 a2 a3 : BitVec 32) (hT : Tp.Tb W) :
    Calls Tryd.prog 3 #[ThRef.ins op d n m imm, sv s, .agg #[u a0, u a1, u a2, u a3]] W fun e w' => e = .returned (.bool true) ∧ Below W.heap.size W w' := by
  by_cases hc : ThRef.canB op d n m imm = true
  · have ho := ThRef.can_op op d n m imm hc
    obtain ⟨k, rfl⟩ := Int.eq_ofNat_of_zero_le ho.1
    have hk : k < 21 := by omega
    have hv : ThRef.putV k d n m imm = .tuple #[.int .u16 (Tp.putI k d n m imm : Nat), .int .i64 0] := by unfold ThRef.putV; rw [hc]; rfl
    have hb := (Tp.head_put k hk d n m imm hc).2
    exact stepsYes rlstep W k d n m imm s a0 a1 a2 a3 hT (Tp.putI k d n m imm : Nat) (by omega) (by omega) hv
  · exact stepsNo W op d n m imm s a0 a1 a2 a3 hT (by simpa using hc)
end Go.Proofs.YtcigchpcffpemaaDoor.Lk
