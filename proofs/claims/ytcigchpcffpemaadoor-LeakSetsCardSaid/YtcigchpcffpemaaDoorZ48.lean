/- DERIVED. LkSt in one text. By an AI agent. -/
import Derived.Test.YtcigchpcffpemaaDoorZ24
import Derived.Test.YtcigchpcffpemaaDoorZ32
import Derived.Test.YtcigchpcffpemaaDoorZ05
import Derived.Lib.QuietBelow
/- DERIVED. The walk of LeakSets. By an AI agent. -/
namespace Go.Proofs.YtcigchpcffpemaaDoor.Lk
open Go.ChangeShapes Go.WideShapes Go.ChangeAt Go.RowKit WMath Word Ref Args Mm MmR Co
set_option linter.unusedVariables false
set_option linter.unusedSimpArgs false
def codeU (hh : Int) : List Int := [hh, 5, 6]
theorem fitU (hh : Int) (h0 : 0 ≤ hh) (h1 : hh < 65536) : Fit ⟨codeU hh, noughts 4, [7, 8], 0, 0⟩ :=
  ⟨fun z hz => by simp [codeU] at hz; omega, noughts_in 4, fun z hz => by simp at hz; omega, Nat.zero_le _, ⟨Int.le_refl _, show (0 : Int) < 4294967296 by decide⟩, show 3 ≤ 60000 by decide, show (noughts 4).length ≤ 16000 by decide, show 2 ≤ 140737488351232 by decide⟩
/-- The law's boxes. -/
structure Li (W : World) (cs : Array Value) (s : S) (a0 a1 a2 a3 : BitVec 32) (w : World) : Prop where
  b0 : Blk w W.heap.size 23 cs
  b1 : Blk w (W.heap.size + 1) 27 (sC s)
  b2 : Blk w (W.heap.size + 1 + 1) 28 #[u a0, u a1, u a2, u a3]
theorem Li.below {W w w' : World} {cs : Array Value} {s : S} {a0 a1 a2 a3 : BitVec 32} (h : Li W cs s a0 a1 a2 a3 w) (hb : Below w.heap.size w w') : Li W cs s a0 a1 a2 a3 w' := ⟨h.b0.below hb h.b0.lt, h.b1.below hb h.b1.lt, h.b2.below hb h.b2.lt⟩
theorem Li.upd {X : Nat → Prop} {W w w' : World} {cs : Array Value} {s : S} {a0 a1 a2 a3 : BitVec 32} (h : Li W cs s a0 a1 a2 a3 w) (hu : Upd X w w') (hX : ∀ k, X k → W.heap.size + 1 + 1 < k) : Li W cs s a0 a1 a2 a3 w' :=
  ⟨h.b0.upd hu (fun q => by have := hX _ q; omega), h.b1.upd hu (fun q => by have := hX _ q; omega), h.b2.upd hu (fun q => by have := hX _ q; omega)⟩
theorem li_new (W : World) (cs : Array Value) (s : S) (a0 a1 a2 a3 : BitVec 32) : Li W cs s a0 a1 a2 a3 (((W.alloc (.cells cs 23)).alloc (.cells (sC s) 27)).alloc (.cells #[u a0, u a1, u a2, u a3] 28)) ∧ Below W.heap.size W (((W.alloc (.cells cs 23)).alloc (.cells (sC s) 27)).alloc (.cells #[u a0, u a1, u a2, u a3] 28)) := by
  have h0 := Blk.new W 23 cs
  have h1 := Blk.new (W.alloc (.cells cs 23)) 27 (sC s)
  have h2 := Blk.new ((W.alloc (.cells cs 23)).alloc (.cells (sC s) 27)) 28 #[u a0, u a1, u a2, u a3]
  simp only [World.size_alloc] at h1 h2
  exact ⟨⟨(h0.alloc _).alloc _, h1.alloc _, h2⟩, (((Below.refl _ _).alloc (Nat.le_refl _) _).alloc (by simp) _).alloc (by simp; omega) _⟩
set_option maxRecDepth 100000 in
set_option maxHeartbeats 4000000 in
theorem setsNo (W : World) (op d n m imm : Int) (s : S) (a0 a1 a2 a3 : BitVec 32) (hT : Tp.Tb W) (hc : ThRef.canB op d n m imm = false) :
    Calls Tryd.prog 4 #[ThRef.ins op d n m imm, sv s, .agg #[u a0, u a1, u a2, u a3]] W fun e w' => e = .returned (.bool true) ∧ Below W.heap.size W w' := by
  have hp := fun w => ThRef.put op d n m imm w
  have hv : ThRef.putV op d n m imm = .tuple #[.int .u16 0, .int .i64 1] := by unfold ThRef.putV; rw [hc]; rfl
  rw [hv] at hp
  obtain ⟨_, hbel⟩ := li_new W #[.int .i64 op, .int .i64 d, .int .i64 n, .int .i64 m, .int .i64 imm] s a0 a1 a2 a3
  have HP := Lib.hid hp; have HT := Lib.hid hT; have HB := Lib.hid hbel
  clear hp hT hbel hv hc
  go_enter Tryd.func4, Tryd.ntmps4
  go_wp2_with fail
  refine (HP.out _).mono ?_
  rintro e w1 ⟨rfl, hb⟩
  have HB1 := Lib.hid (HB.out.trans (hb.mono HB.out.size))
  clear hb HB HP
  go_wp2_with fail
  refine (lives _ (HT.out.below HB1.out)).mono ?_
  rintro e w2 ⟨rfl, hb⟩
  have HB2 := Lib.hid (HB1.out.trans (hb.mono HB1.out.size))
  clear hb
  go_wp2_with fail
  go_ret
  exact ⟨rfl, HB2.out⟩
/-- The leak, as the law asks of it. -/
def Told (k D N M : Nat) (i : Int) (s x : S) (er : Int) (l : L) : Prop := (er ≠ 0 → l = zL) ∧ (er = 0 → ThRef.setsB k i = true → l.r = x.r D ∧ l.o = s.r D)
theorem told_of (s : S) (m : St) (hf : Fit m) (hh k D N M : Nat) (i : Int) (hfe : fetchV m (s.pc.toNat : Int) = ((hh : Int), 0)) (ht : Tp.takeF 21 0 hh = (k, ⟨D, N, M, i⟩, 0)) (x : S) (st : Bool) (er : Int) (m2 : St) (hq : stepV s m = (x, st, er, m2)) : ∃ l, leakV s m = ⟨x, l, st, er, m2⟩ ∧ Told k D N M i s x er l := by
  unfold leakV
  rw [hq]
  by_cases he : er = 0
  · subst he
    rw [if_pos rfl]
    refine ⟨lkOf s m x, rfl, fun h => absurd rfl h, fun _ hs => ?_⟩
    rw [lkOf_of hfe ht]
    exact ⟨by show resR k D N M i s x = _; unfold resR; rw [if_pos hs], by show oldR k D i s = _; unfold oldR; rw [if_pos hs]⟩
  · rw [if_neg he]
    exact ⟨zL, rfl, fun _ => rfl, fun h => absurd h he⟩
set_option maxRecDepth 100000 in
set_option maxHeartbeats 8000000 in
theorem setsYes (W : World) (k D N M : Nat) (i : Int) (hw : Wi k D N M i) (s : S) (a0 a1 a2 a3 : BitVec 32) (hT : Tp.Tb W) (hh : Nat) (h1 : hh < 65536) (hv : ThRef.putV k D N M i = .tuple #[.int .u16 hh, .int .i64 0]) (htf : Tp.takeF 21 0 hh = (k, ⟨D, N, M, i⟩, 0)) :
    Calls Tryd.prog 4 #[ThRef.ins k D N M i, sv s, .agg #[u a0, u a1, u a2, u a3]] W fun e w' => e = .returned (.bool true) ∧ Below W.heap.size W w' := by
  have hp := fun w => ThRef.put k D N M i w
  rw [hv] at hp
  obtain ⟨hlb, hbel⟩ := li_new W (iC k D N M i) s a0 a1 a2 a3
  have HP := Lib.hid hp; have HT := Lib.hid hT; have HB := Lib.hid hbel; have HLB := Lib.hid hlb; have HF := Lib.hid (fitU hh (by omega) (by omega)); have HW := Lib.hid hw; have HTF := Lib.hid htf
  clear hp hT hbel hv hlb h1 hw htf
  go_enter Tryd.func4, Tryd.ntmps4
  go_wp2_with fail
  refine (HP.out _).mono ?_
  rintro e w1 ⟨rfl, hb⟩
  have HB1 := Lib.hid (HB.out.trans (hb.mono HB.out.size))
  have HL1 := Lib.hid (HLB.out.below hb)
  clear hb HB HP HLB
  have n8 : w1.cell? ⟨W.heap.size + 1, 8, none⟩ = some (u s.pc) := HL1.out.b1.cell 8
  have f8 : w1.frozen? ⟨W.heap.size + 1, 8, none⟩ = false := HL1.out.b1.frozen 8
  go_upto_region 5 with fail
  have hU := upd_set w1 (W.heap.size + 1) 8 (u 0#32) (Upd.refl _ w1)
  have HL3 := Lib.hid (show Li W (iC k D N M i) (s.to 0#32) a0 a1 a2 a3 (w1.setCell ⟨W.heap.size + 1, 8, none⟩ (u 0#32)) from ⟨HL1.out.b0.upd hU (by omega), blk_one (cs' := sC (s.to 0#32)) HL1.out.b1 8 (u 0#32) rfl, HL1.out.b2.upd hU (by omega)⟩)
  have HB3 := Lib.hid (upd_low HB1.out hU (by omega))
  obtain ⟨w3, hw3⟩ : ∃ w3, w1.setCell ⟨W.heap.size + 1, 8, none⟩ (.int .u32 0) = w3 := ⟨_, rfl⟩
  rw [hw3]
  have hw3' : w1.setCell ⟨W.heap.size + 1, 8, none⟩ (u 0#32) = w3 := hw3
  rw [hw3'] at HL3 HB3
  clear hw3 hw3' hU HL1 HB1 n8 f8
  have hpc : ((s.to 0#32).pc.toNat : Int) = 0 := rfl
  have HPC := Lib.hid hpc
  clear hpc
  generalize s.to 0#32 = s0 at *
  have c0 : w3.cell? ⟨W.heap.size + 1 + 1, 0, none⟩ = some (u a0) := HL3.out.b2.cell 0
  have c1 : w3.cell? ⟨W.heap.size + 1 + 1, 1, none⟩ = some (u a1) := HL3.out.b2.cell 1
  have c2 : w3.cell? ⟨W.heap.size + 1 + 1, 2, none⟩ = some (u a2) := HL3.out.b2.cell 2
  have c3 : w3.cell? ⟨W.heap.size + 1 + 1, 3, none⟩ = some (u a3) := HL3.out.b2.cell 3
  have hgc : W.heap.size + 1 + 1 < w3.heap.size := HL3.out.b2.lt
  go_wp2_with fail
  have hx3 : Below w3.heap.size w3 (w3.alloc (.cells ((codeU hh).map (Value.int .u16)).toArray 29)) := (Below.refl _ _).alloc (Nat.le_refl _) _
  refine (both (some ⟨w3.heap.size, 0, none⟩) 3 (codeU hh) a0 a1 a2 a3 _ (lies_new w3 .u16 29 (codeU hh)) (by decide : 3 ≤ 10) (by decide : 3 ≤ 3) (by decide) HF.out).mono ?_
  rintro e w4 ⟨h, h', n1, n2, rfl, hbo⟩
  have HX4 := Lib.hid (hx3.trans (hbo.lo.mono (by simp)))
  have HL4 := Lib.hid (HL3.out.below HX4.out)
  have HB4 := Lib.hid (HB3.out.trans (HX4.out.mono HB3.out.size))
  have HQ1 := Lib.hid (show W.heap.size + 1 + 1 < n1 from by have h1 := HL3.out.b2.lt; have h2 := hbo.l1; simp only [World.size_alloc] at h2; omega)
  have HP4 := Lib.hid hbo.p
  clear hx3 hbo c0 c1 c2 c3 hgc HL3 HB3 HX4
  have c0 : w4.cell? ⟨W.heap.size + 1 + 1, 0, none⟩ = some (u a0) := HL4.out.b2.cell 0
  have c1 : w4.cell? ⟨W.heap.size + 1 + 1, 1, none⟩ = some (u a1) := HL4.out.b2.cell 1
  have c2 : w4.cell? ⟨W.heap.size + 1 + 1, 2, none⟩ = some (u a2) := HL4.out.b2.cell 2
  have c3 : w4.cell? ⟨W.heap.size + 1 + 1, 3, none⟩ = some (u a3) := HL4.out.b2.cell 3
  have hgc : W.heap.size + 1 + 1 < w4.heap.size := HL4.out.b2.lt
  go_wp2_with fail
  have hx3 : Below w4.heap.size w4 (w4.alloc (.cells ((codeU hh).map (Value.int .u16)).toArray 29)) := (Below.refl _ _).alloc (Nat.le_refl _) _
  refine (both (some ⟨w4.heap.size, 0, none⟩) 3 (codeU hh) a0 a1 a2 a3 _ (lies_new w4 .u16 29 (codeU hh)) (by decide : 3 ≤ 10) (by decide : 3 ≤ 3) (by decide) HF.out).mono ?_
  rintro e w5 ⟨g, g', n3, n4, rfl, hbo⟩
  have HX5 := Lib.hid (hx3.trans (hbo.lo.mono (by simp)))
  have HL := Lib.hid (HL4.out.below HX5.out)
  have HB := Lib.hid (HB4.out.trans (HX5.out.mono HB4.out.size))
  have HQ3 := Lib.hid (show w4.heap.size ≤ n3 from by have h2 := hbo.l1; simp only [World.size_alloc] at h2; omega)
  have HQ4 := Lib.hid (show ∀ q, h.B q → q < n3 from fun q hq => by have h1 := (HP4.out.lt hq).2; have h2 := HQ3.out; omega)
  have HP := Lib.hid (HP4.out.below HX5.out)
  have HR := Lib.hid hbo.p
  have HQ5 := Lib.hid (show W.heap.size + 1 + 1 < n3 from by have h1 := HL4.out.b2.lt; have h2 := HQ3.out; omega)
  have hfe : fetchV (mset (af a0 a1 a2 a3) 4 ⟨codeU hh, noughts 4, [7, 8], 0, 0⟩) (s0.pc.toNat : Int) = ((hh : Int), 0) := by
    rw [HPC.out, fetchV_C (m := ⟨codeU hh, noughts 4, [7, 8], 0, 0⟩) (by simp only [mset, (setS_len _ _ _).1])]
    rfl
  have hfit : Fit (mset (af a0 a1 a2 a3) 4 ⟨codeU hh, noughts 4, [7, 8], 0, 0⟩) := hbo.p.fit
  clear hx3 hbo c0 c1 c2 c3 hgc HL4 HB4 HX5 HP4 HQ3 HF HPC
  generalize mset (af a0 a1 a2 a3) 4 ⟨codeU hh, noughts 4, [7, 8], 0, 0⟩ = m1 at *
  rcases hq : stepV s0 m1 with ⟨x, st, er, m2⟩
  obtain ⟨l, hlv, htold⟩ := told_of s0 m1 hfit hh k D N M i hfe HTF.out x st er m2 hq
  have hcs := fun w p lo => lstep s0 n1 h m1 w p W HT.out lo (by have := HQ1.out; omega)
  have hrs := fun w p t => cstep s0 n3 g m1 w p t
  have hl2 := stepV_len s0 m1
  rw [hlv] at hcs
  rw [hq] at hrs hl2
  have HM := Lib.hid (show m2.W.length ≤ 100000 from by have h1 : m2.W.length = m1.W.length := hl2; have h2 := hfit.wl; omega)
  have HCS := Lib.hid hcs; have HRS := Lib.hid hrs; have HTO := Lib.hid htold
  clear hcs hrs hq hlv hfe hfit hl2 htold HTF
  obtain ⟨n0', n1', n2', n3', n4', n5, n6, n7, n8, n9, n10, n11, n12⟩ := Blk.cells13 HL.out.b1
  go_wp2_with fail
  refine (HCS.out _ HP.out HB.out).mono ?_
  rintro e w7 ⟨rfl, hp7, hu7⟩
  have HP7 := Lib.hid hp7
  have HR7 := Lib.hid (HR.out.upd hu7 (fun q hq hx => by have h1 := (HR.out.lt hq).1; have h2 := HQ4.out q (Hd.XB hx); omega))
  have HL7 := Lib.hid (HL.out.upd hu7 (fun q hq => by have h1 := HP.out.X_low q hq; have h2 := HQ1.out; omega))
  have HB7 := Lib.hid (show Below W.heap.size W w7 from back HB.out hu7 (fun q hq => by have h1 := HP.out.X_low q hq; have h2 := HQ1.out; omega))
  clear hp7 hu7 n0' n1' n2' n3' n4' n5 n6 n7 n8 n9 n10 n11 n12 HCS HP HR HL HB
  go_upto_region 10 with fail
  have hx : Below w7.heap.size w7 ((w7.alloc (.cells (sC x) 27)).alloc (.cells (lC l) 42)) := ((Below.refl _ _).alloc (Nat.le_refl _) _).alloc (by simp) _
  have hkx : Blk ((w7.alloc (.cells (sC x) 27)).alloc (.cells (lC l) 42)) w7.heap.size 27 (sC x) := (Blk.new w7 27 (sC x)).alloc _
  have hkl : Blk ((w7.alloc (.cells (sC x) 27)).alloc (.cells (lC l) 42)) (w7.heap.size + 1) 42 (lC l) := by
    have := Blk.new (w7.alloc (.cells (sC x) 27)) 42 (lC l)
    simpa only [World.size_alloc] using this
  have HP8 := Lib.hid (PM.below HP7.out hx)
  have HR8 := Lib.hid (PM.below HR7.out hx)
  have HL8 := Lib.hid (HL7.out.below hx)
  have HB8 := Lib.hid (HB7.out.trans (hx.mono HB7.out.size))
  have HKX := Lib.hid hkx; have HKL := Lib.hid hkl
  have HXB := Lib.hid (show ∀ q, g.X q → q < w7.heap.size from fun q hq => (HR7.out.lt (Hd.XB hq)).2)
  obtain ⟨w8, hw8⟩ : ∃ w8, (w7.alloc (.cells (sC x) 27)).alloc (.cells (lC l) 42) = w8 := ⟨_, rfl⟩
  rw [hw8] at HP8 HR8 HL8 HB8 HKX HKL
  have hw8' : (w7.alloc (.cells #[u (x.r 0), u (x.r 1), u (x.r 2), u (x.r 3), u (x.r 4), u (x.r 5), u (x.r 6), u (x.r 7), u x.pc, .bool x.n, .bool x.z, .bool x.c, .bool x.v] 27)).alloc (.cells #[u l.pc, .int .u16 (l.h : Int), u l.a, u l.b, u l.r, u l.o, u l.bus, u l.ad, .bool l.me, .bool l.rn] 42) = w8 := hw8
  rw [hw8']
  generalize w7.heap.size = gx at *
  clear hw8 hw8' hx hkx hkl HP7 HR7 HL7 HB7
  obtain ⟨n0', n1', n2', n3', n4', n5, n6, n7, n8, n9, n10, n11, n12⟩ := Blk.cells13 HL8.out.b1
  go_wp2_with fail
  refine (HRS.out _ HR8.out (HT.out.below HB8.out)).mono ?_
  rintro e w9 ⟨rfl, hr9, hu9⟩
  have HR9 := Lib.hid hr9
  have HP9 := Lib.hid (HP8.out.upd hu9 (fun q hq hx => by have h1 := HQ4.out q hq; have h2 := HR8.out.X_low q hx; omega))
  have HL9 := Lib.hid (HL8.out.upd hu9 (fun q hq => by have h1 := HR8.out.X_low q hq; have h2 := HQ5.out; omega))
  have HB9 := Lib.hid (show Below W.heap.size W w9 from back HB8.out hu9 (fun q hq => by have h1 := HR8.out.X_low q hq; have h2 := HQ5.out; omega))
  have HX9 := Lib.hid (HKX.out.upd hu9 (fun hq => by have := HXB.out _ hq; omega))
  have HZ9 := Lib.hid (HKL.out.upd hu9 (fun hq => by have := HXB.out _ hq; omega))
  clear hr9 hu9 n0' n1' n2' n3' n4' n5 n6 n7 n8 n9 n10 n11 n12 HRS HP8 HR8 HL8 HB8 HKX HKL HXB
  go_upto_region 11 with fail
  have hx : Below w9.heap.size w9 (w9.alloc (.cells (sC x) 27)) := (Below.refl _ _).alloc (Nat.le_refl _) _
  have HP10 := Lib.hid (PM.below HP9.out hx)
  have HR10 := Lib.hid (PM.below HR9.out hx)
  have HL10 := Lib.hid (HL9.out.below hx)
  have HB10 := Lib.hid (HB9.out.trans (hx.mono HB9.out.size))
  have HX10 := Lib.hid (Blk.below HX9.out hx HX9.out.lt)
  have HZ10 := Lib.hid (Blk.below HZ9.out hx HZ9.out.lt)
  have HKX := Lib.hid (Blk.new w9 27 (sC x))
  obtain ⟨w10, hw10⟩ : ∃ w10, w9.alloc (.cells (sC x) 27) = w10 := ⟨_, rfl⟩
  rw [hw10] at HP10 HR10 HL10 HB10 HX10 HZ10 HKX
  have hw10' : w9.alloc (.cells #[u (x.r 0), u (x.r 1), u (x.r 2), u (x.r 3), u (x.r 4), u (x.r 5), u (x.r 6), u (x.r 7), u x.pc, .bool x.n, .bool x.z, .bool x.c, .bool x.v] 27) = w10 := hw10
  rw [hw10']
  generalize w9.heap.size = gy at *
  clear hw10 hw10' hx HP9 HR9 HL9 HB9 HX9 HZ9
  obtain ⟨n0', n1', n2', n3', n4', n5, n6, n7, n8, n9, n10, n11, n12⟩ := Blk.cells13 HX10.out
  obtain ⟨m0', m1', m2', m3, m4, m5, m6, m7, m8, m9, m10, m11, m12⟩ := Blk.cells13 HKX.out
  have hEq := eq_state x
  have hG : Tryd.prog.eqGuardType Tryd.prog.depth 27 = false := by kernel_rfl
  go_wp2_with fail
  refine (Mm.words _ h _ _ HP10.out).mono ?_
  rintro e w11 ⟨A5, c5, rfl, ho11, hx11⟩
  have HR11 := Lib.hid (PM.below HR10.out hx11)
  have HL11 := Lib.hid (HL10.out.below hx11)
  have HB11 := Lib.hid (HB10.out.trans (Below.mono hx11 HB10.out.size))
  have HX11 := Lib.hid (Blk.below HX10.out hx11 HX10.out.lt)
  have HZ11 := Lib.hid (Blk.below HZ10.out hx11 HZ10.out.lt)
  have HO11 := Lib.hid (lies_own ho11)
  clear ho11 hx11 HP10 HR10 HL10 HB10 HX10 HZ10 HKX n0' n1' n2' n3' n4' n5 n6 n7 n8 n9 n10 n11 n12 m0' m1' m2' m3 m4 m5 m6 m7 m8 m9 m10 m11 m12 hEq hG
  go_wp2_with fail
  refine (Mm.words _ g _ _ HR11.out).mono ?_
  rintro e w12 ⟨A6, c6, rfl, ho12, hx12⟩
  have HL12 := Lib.hid (HL11.out.below hx12)
  have HB12 := Lib.hid (HB11.out.trans (Below.mono hx12 HB11.out.size))
  have HX12 := Lib.hid (Blk.below HX11.out hx12 HX11.out.lt)
  have HZ12 := Lib.hid (Blk.below HZ11.out hx12 HZ11.out.lt)
  have HO12 := Lib.hid (lies_own ho12); have HO13 := Lib.hid (HO11.out.below hx12)
  clear ho12 hx12 HR11 HL11 HB11 HX11 HZ11 HO11
  go_wp2_with fail
  refine (MmR.same _ _ _ _ m2.W _ HO13.out HO12.out HM.out).mono ?_
  rintro e w13 ⟨rfl, hb13⟩
  have HL13 := Lib.hid (HL12.out.below hb13)
  have HB13 := Lib.hid (HB12.out.trans (hb13.mono HB12.out.size))
  have HX13 := Lib.hid (Blk.below HX12.out hb13 HX12.out.lt)
  have HZ13 := Lib.hid (Blk.below HZ12.out hb13 HZ12.out.lt)
  clear hb13 HL12 HB12 HX12 HZ12 HO12 HO13 HM
  have i0 := HL13.out.b0.cell 0; have i1 := HL13.out.b0.cell 1; have i2 := HL13.out.b0.cell 2; have i3 := HL13.out.b0.cell 3; have i4 := HL13.out.b0.cell 4
  simp at i0 i1 i2 i3 i4
  go_wp2_with fail
  refine (ThRef.writes k D N M i _).mono ?_
  rintro e w14 ⟨rfl, hb14⟩
  have HL14 := Lib.hid (HL13.out.below hb14)
  have HB14 := Lib.hid (HB13.out.trans (hb14.mono HB13.out.size))
  have HX14 := Lib.hid (Blk.below HX13.out hb14 HX13.out.lt)
  have HZ14 := Lib.hid (Blk.below HZ13.out hb14 HZ13.out.lt)
  clear hb14 HL13 HB13 HX13 HZ13 i0 i1 i2 i3 i4
  have key : (er ≠ 0 ∧ l = zL) ∨ (er = 0 ∧ ThRef.setsB k i = false) ∨ (er = 0 ∧ ThRef.setsB k i = true ∧ l.r = x.r D ∧ l.o = s0.r D) := by
    by_cases he : er = 0
    · cases hs : ThRef.setsB k i with
      | false => exact .inr (.inl ⟨he, rfl⟩)
      | true => exact .inr (.inr ⟨he, rfl, (HTO.out.2 he hs).1, (HTO.out.2 he hs).2⟩)
    · exact .inl ⟨he, HTO.out.1 he⟩
  clear HTO
  have hv : ThRef.wrV k D N M i = if ThRef.setsB k i = true then .tuple #[.int .i64 D, .bool true] else .tuple #[.int .i64 0, .bool false] := by unfold ThRef.wrV; rw [HW.out.can, Bool.true_and]
  rcases key with ⟨he, hl⟩ | ⟨he, hs⟩ | ⟨he, hs, hr, ho⟩
  · have he1 : (er != 0) = true := by simpa using he
    have he2 : (er == 0) = false := by simpa using he
    subst hl
    obtain ⟨d', c', hv'⟩ : ∃ d' c', ThRef.wrV k D N M i = .tuple #[.int .i64 d', .bool c'] := by rw [hv]; split <;> exact ⟨_, _, rfl⟩
    rw [hv']
    clear he hv hv'
    obtain ⟨y0, y1, y2, y3, y4, y5, y6, y7, y8, y9⟩ := Blk.cells10 HZ14.out
    have r0 := fun d os => cell_regrown y0 d os; have r1 := fun d os => cell_regrown y1 d os; have r2 := fun d os => cell_regrown y2 d os; have r3 := fun d os => cell_regrown y3 d os; have r4 := fun d os => cell_regrown y4 d os
    have r5 := fun d os => cell_regrown y5 d os; have r6 := fun d os => cell_regrown y6 d os; have r7 := fun d os => cell_regrown y7 d os; have r8 := fun d os => cell_regrown y8 d os; have r9 := fun d os => cell_regrown y9 d os
    simp only [zL] at r0 r1 r2 r3 r4 r5 r6 r7 r8 r9
    clear y0 y1 y2 y3 y4 y5 y6 y7 y8 y9
    have hEl : ∀ w, (Op.equalIn 10000 42 (.agg #[.int .u32 0, .int .u16 0, .int .u32 0, .int .u32 0, .int .u32 0, .int .u32 0, .int .u32 0, .int .u32 0, .bool false, .bool false]) (.agg #[.int .u32 0, .int .u16 0, .int .u32 0, .int .u32 0, .int .u32 0, .int .u32 0, .int .u32 0, .int .u32 0, .bool false, .bool false])).run Tryd.prog w = .ok true w := fun w => eq_leak zL w
    have hG2 : Tryd.prog.eqGuardType Tryd.prog.depth 42 = false := by kernel_rfl
    go_upto_region 14 with fail
    refine wp_region_quiet_below (by kernel_rfl) (by kernel_rfl) ?_
    repeat (go_big_quiet_step ((go_at_call 10; exact Calls.regrown_of (lives _ (HT.out.below (HB14.out.trans ((below_regrown _ _ _).mono HB14.out.size)))))))
    refine wpQuiet_nil ?_
    intro _ hw'
    obtain ⟨⟨dq, osq⟩, hw''⟩ := hw'
    subst hw''
    go_wp2_with fail
    go_ret
    exact ⟨rfl, HB14.out.trans ((below_regrown _ dq osq).mono HB14.out.size)⟩
  · subst he
    rw [hv, if_neg (by rw [hs]; exact Bool.false_ne_true)]
    clear hv hs
    go_upto_region 14 with fail
    refine wp_region_quiet_below (by kernel_rfl) (by kernel_rfl) ?_
    repeat (go_big_quiet_step ((go_at_call 10; exact Calls.regrown_of (lives _ (HT.out.below (HB14.out.trans ((below_regrown _ _ _).mono HB14.out.size)))))))
    refine wpQuiet_nil ?_
    intro _ hw'
    obtain ⟨⟨dq, osq⟩, hw''⟩ := hw'
    subst hw''
    go_wp2_with fail
    go_ret
    exact ⟨rfl, HB14.out.trans ((below_regrown _ dq osq).mono HB14.out.size)⟩
  · subst he
    have hD := HW.out.d8 (sets_lt hs)
    rw [hv, if_pos hs]
    have hD2 : (D : Int) < 8 := by omega
    have y4 : w14.cell? ⟨gx + 1, 4, none⟩ = some (u (x.r D)) := by rw [← hr]; exact HZ14.out.cell 4
    have y5 : w14.cell? ⟨gx + 1, 5, none⟩ = some (u (s0.r D)) := by rw [← ho]; exact HZ14.out.cell 5
    have xD := HX14.out.reg D hD
    have sD := HL14.out.b1.reg D hD
    have r0 := fun d os => cell_regrown y4 d os; have r1 := fun d os => cell_regrown y5 d os; have r2 := fun d os => cell_regrown xD d os; have r3 := fun d os => cell_regrown sD d os
    clear hv hs hr ho hD y4 y5 xD sD
    generalize x.r D = xd at *
    generalize s0.r D = sd at *
    go_upto_region 14 with fail
    refine wp_region_quiet_below (by kernel_rfl) (by kernel_rfl) ?_
    repeat (go_big_quiet_step ((go_at_call 10; exact Calls.regrown_of (lives _ (HT.out.below (HB14.out.trans ((below_regrown _ _ _).mono HB14.out.size)))))))
    refine wpQuiet_nil ?_
    intro _ hw'
    obtain ⟨⟨dq, osq⟩, hw''⟩ := hw'
    subst hw''
    go_wp2_with fail
    go_ret
    exact ⟨rfl, HB14.out.trans ((below_regrown _ dq osq).mono HB14.out.size)⟩
theorem leakSets.walk (W : World) (op d n m imm : Int) (_hw : (Lit.int .i64 op).wf = true ∧ (Lit.int .i64 d).wf = true ∧ (Lit.int .i64 n).wf = true ∧ (Lit.int .i64 m).wf = true ∧ (Lit.int .i64 imm).wf = true) (s : S) (a0 a1 a2 a3 : BitVec 32) (hT : Tp.Tb W) :
    Calls Tryd.prog 4 #[ThRef.ins op d n m imm, sv s, .agg #[u a0, u a1, u a2, u a3]] W fun e w' => e = .returned (.bool true) ∧ Below W.heap.size W w' := by
  by_cases hc : ThRef.canB op d n m imm = true
  · have ho := ThRef.can_op op d n m imm hc
    obtain ⟨k, rfl⟩ := Int.eq_ofNat_of_zero_le ho.1
    have hk : k < 21 := by omega
    have hv : ThRef.putV k d n m imm = .tuple #[.int .u16 (Tp.putI k d n m imm : Nat), .int .i64 0] := by unfold ThRef.putV; rw [hc]; rfl
    have hb := (Tp.head_put k hk d n m imm hc).2
    have ht := Tp.take_put k hk d n m imm hc
    obtain ⟨D, N, M, hq, hw⟩ := wi_of k hk ⟨d, n, m, imm⟩ hc
    have h1 : d = D := congrArg Tp.Nums.d hq
    have h2 : n = N := congrArg Tp.Nums.n hq
    have h3 : m = M := congrArg Tp.Nums.m hq
    subst h1 h2 h3
    exact setsYes W k D N M imm hw s a0 a1 a2 a3 hT (Tp.putI k D N M imm) (by omega) hv ht
  · exact setsNo W op d n m imm s a0 a1 a2 a3 hT (by simpa using hc)
end Go.Proofs.YtcigchpcffpemaaDoor.Lk
