/- DERIVED. CoSt in one text. By an AI agent. -/
import Derived.Test.YtkipfeljpngkeaaDoorZ29
import Derived.Test.YtkipfeljpngkeaaDoorZ05
import Derived.Deep.RegionHeld3
/- DERIVED. The walk of CoreSteps. By an AI agent. -/
namespace Go.Proofs.YtkipfeljpngkeaaDoor.Co
open Go.ChangeShapes Go.WideShapes Go.ChangeAt Go.RowKit WMath Word Ref Args Mm MmR
set_option linter.unusedVariables false
set_option linter.unusedSimpArgs false
/-- Words set, one behind the other. -/
def mset (a : Nat → BitVec 32) : Nat → St → St
  | 0, m => m
  | k + 1, m => setS (mset a k m) k ((a k).toNat : Int)
theorem mset_len (a : Nat → BitVec 32) : ∀ (k : Nat) (m : St), (mset a k m).W.length = m.W.length
  | 0, m => rfl
  | k + 1, m => by rw [mset, (setS_len _ _ _).2.1]; exact mset_len a k m
theorem set_in_len (m : St) (k : Nat) (u : Int) (hk : k < m.W.length) : setS m k u = { m with W := m.W.set k u } := by
  unfold setS; rw [if_pos ⟨by omega, by omega⟩]; rfl
def codeS (hh : Int) : List Int := [48896, hh, 4660, 22136, 48640, 39612]
theorem fitS (hh : Int) (h0 : 0 ≤ hh) (h1 : hh < 65536) : Fit ⟨codeS hh, noughts 4, [77, 78], 0, 0⟩ :=
  ⟨fun z hz => by simp [codeS] at hz; omega, noughts_in 4, fun z hz => by simp at hz; omega, Nat.zero_le _, ⟨Int.le_refl _, show (0 : Int) < 4294967296 by decide⟩, show 6 ≤ 60000 by decide, show (noughts 4).length ≤ 16000 by decide, show 2 ≤ 140737488351232 by decide⟩
def af (a0 a1 a2 a3 : BitVec 32) : Nat → BitVec 32
  | 0 => a0 | 1 => a1 | 2 => a2 | _ => a3
theorem af_get (a0 a1 a2 a3 : BitVec 32) (k : Nat) (hk : k < 4) : (#[u a0, u a1, u a2, u a3] : Array Value)[k]? = some (u (af a0 a1 a2 a3 k)) := by
  have hr : k = 0 ∨ k = 1 ∨ k = 2 ∨ k = 3 := by omega
  rcases hr with rfl | rfl | rfl | rfl <;> rfl
theorem doS_len (k D N M : Nat) (i : Int) (s : S) (m : St) : (doS k D N M i s m).2.2.W.length = m.W.length := by
  unfold doS
  split
  · rfl
  · split
    · exact congrArg List.length (loadS_len m _).2.1
    · split
      · exact (storeS_len m _ _).2.1
      · rfl
theorem stepV_len (s : S) (m : St) : (stepV s m).2.2.2.W.length = m.W.length := by
  unfold stepV
  split
  · split
    · split
      · rfl
      · split
        · exact doS_len _ _ _ _ _ _ _
        · exact doS_len _ _ _ _ _ _ _
    · rfl
  · rfl
/-- The law's first boxes. -/
structure Lb (W : World) (s : S) (a0 a1 a2 a3 : BitVec 32) (w : World) : Prop where
  b1 : Blk w (W.heap.size + 1) 27 (sC s)
  b2 : Blk w (W.heap.size + 1 + 1) 28 #[u a0, u a1, u a2, u a3]
theorem Lb.below {W w w' : World} {s : S} {a0 a1 a2 a3 : BitVec 32} (h : Lb W s a0 a1 a2 a3 w) (hb : Below w.heap.size w w') : Lb W s a0 a1 a2 a3 w' := ⟨h.b1.below hb h.b1.lt, h.b2.below hb h.b2.lt⟩
theorem lb_new (W : World) (s : S) (a0 a1 a2 a3 : BitVec 32) (cs : Array Value) (t : TypeId) : Lb W s a0 a1 a2 a3 (((W.alloc (.cells cs t)).alloc (.cells (sC s) 27)).alloc (.cells #[u a0, u a1, u a2, u a3] 28)) ∧ Below W.heap.size W (((W.alloc (.cells cs t)).alloc (.cells (sC s) 27)).alloc (.cells #[u a0, u a1, u a2, u a3] 28)) := by
  have h1 := Blk.new (W.alloc (.cells cs t)) 27 (sC s)
  have h2 := Blk.new ((W.alloc (.cells cs t)).alloc (.cells (sC s) 27)) 28 #[u a0, u a1, u a2, u a3]
  simp only [World.size_alloc] at h1 h2
  exact ⟨⟨h1.alloc _, h2⟩, (((Below.refl _ _).alloc (Nat.le_refl _) _).alloc (by simp) _).alloc (by simp; omega) _⟩
set_option maxRecDepth 100000 in
set_option maxHeartbeats 4000000 in
theorem stepsNo (W : World) (op d n m imm : Int) (s : S) (a0 a1 a2 a3 : BitVec 32) (hT : Tp.Tb W) (hc : ThRef.canB op d n m imm = false) :
    Calls Tryd.prog 3 #[ThRef.ins op d n m imm, sv s, .agg #[u a0, u a1, u a2, u a3]] W fun e w' => e = .returned (.bool true) ∧ Below W.heap.size W w' := by
  have hp := fun w => ThRef.put op d n m imm w
  have hv : ThRef.putV op d n m imm = .tuple #[.int .u16 0, .int .i64 1] := by unfold ThRef.putV; rw [hc]; rfl
  rw [hv] at hp
  obtain ⟨_, hbel⟩ := lb_new W s a0 a1 a2 a3 #[.int .i64 op, .int .i64 d, .int .i64 n, .int .i64 m, .int .i64 imm] 23
  have HP := Lib.hid hp; have HT := Lib.hid hT; have HB := Lib.hid hbel
  clear hp hT hbel hv hc
  go_enter Tryd.func3, Tryd.ntmps3
  go_wp2_with fail
  refine (HP.out _).mono ?_
  rintro e w1 ⟨rfl, hb⟩
  have HB1 := Lib.hid (HB.out.trans (hb.mono HB.out.size))
  clear hb HB HP
  go_wp2_with fail
  refine (lives _ (HT.out.below HB1.out)).mono ?_
  rintro e w2 ⟨rfl, hb⟩
  have HB2 := Lib.hid (HB1.out.trans (hb.mono HB1.out.size))
  clear hb
  go_wp2_with fail
  go_ret
  exact ⟨rfl, HB2.out⟩
set_option maxRecDepth 100000 in
set_option maxHeartbeats 8000000 in
theorem stepsYes (rstep : ∀ (s : S) (n0 : Nat) (h : Hd) (m : St) (w : World), RP n0 h m w → Calls Tryd.prog 14 #[sv s, ptr h.r] w (RpEnd n0 h (stepV s m) w)) (W : World) (op d n m imm : Int) (s : S) (a0 a1 a2 a3 : BitVec 32) (hT : Tp.Tb W) (hh : Int) (h0 : 0 ≤ hh) (h1 : hh < 65536) (hv : ThRef.putV op d n m imm = .tuple #[.int .u16 hh, .int .i64 0]) :
    Calls Tryd.prog 3 #[ThRef.ins op d n m imm, sv s, .agg #[u a0, u a1, u a2, u a3]] W fun e w' => e = .returned (.bool true) ∧ Below W.heap.size W w' := by
  have hp := fun w => ThRef.put op d n m imm w
  rw [hv] at hp
  obtain ⟨hlb, hbel⟩ := lb_new W s a0 a1 a2 a3 #[.int .i64 op, .int .i64 d, .int .i64 n, .int .i64 m, .int .i64 imm] 23
  have HP := Lib.hid hp; have HT := Lib.hid hT; have HB := Lib.hid hbel; have HLB := Lib.hid hlb; have HF := Lib.hid (fitS hh h0 h1)
  clear hp hT hbel hv hlb h0 h1
  go_enter Tryd.func3, Tryd.ntmps3
  go_wp2_with fail
  refine (HP.out _).mono ?_
  rintro e w1 ⟨rfl, hb⟩
  have HB1 := Lib.hid (HB.out.trans (hb.mono HB.out.size))
  have HL1 := Lib.hid (HLB.out.below hb)
  clear hb HB HP HLB
  go_upto_region 5 with fail
  have hx : Below w1.heap.size w1 (w1.alloc (.cells ((codeS hh).map (Value.int .u16)).toArray 29)) := (Below.refl _ _).alloc (Nat.le_refl _) _
  have HC2 := Lib.hid (lies_new w1 .u16 29 (codeS hh))
  have HL2 := Lib.hid (HL1.out.below hx)
  have HB2 := Lib.hid (HB1.out.trans (hx.mono HB1.out.size))
  have hgc : W.heap.size + 1 + 1 < w1.heap.size := HL1.out.b2.lt
  obtain ⟨w2, hw2⟩ : ∃ w2, w1.alloc (.cells #[.int .u16 48896, .int .u16 hh, .int .u16 4660, .int .u16 22136, .int .u16 48640, .int .u16 39612] 29) = w2 := ⟨_, rfl⟩
  rw [hw2]
  have hw2' : w1.alloc (.cells ((codeS hh).map (Value.int .u16)).toArray 29) = w2 := hw2
  rw [hw2'] at HC2 HL2 HB2
  have HGC := Lib.hid (show w1.heap.size < w2.heap.size from by rw [← hw2]; simp)
  generalize w1.heap.size = gc at *
  clear hw2 hw2' hx HL1 HB1
  have n8 : w2.cell? ⟨W.heap.size + 1, 8, none⟩ = some (u s.pc) := HL2.out.b1.cell 8
  have f8 : w2.frozen? ⟨W.heap.size + 1, 8, none⟩ = false := HL2.out.b1.frozen 8
  go_upto_region 6 with fail
  have hU := upd_set w2 (W.heap.size + 1) 8 (u 2#32) (Upd.refl _ w2)
  have hK1 := blk_one (cs' := sC (s.to 2#32)) HL2.out.b1 8 (u 2#32) rfl
  have HL3 := Lib.hid (show Lb W (s.to 2#32) a0 a1 a2 a3 (w2.setCell ⟨W.heap.size + 1, 8, none⟩ (u 2#32)) from ⟨hK1, HL2.out.b2.upd hU (by omega)⟩)
  have HB3 := Lib.hid (upd_low HB2.out hU (by omega))
  have HC3 := Lib.hid (hU.lies HC2.out (fun b o hb _ he => by injection hb with hb; injection hb with hb; omega))
  have HGC3 := Lib.hid (show gc < (w2.setCell ⟨W.heap.size + 1, 8, none⟩ (u 2#32)).heap.size from by simpa using HGC.out)
  obtain ⟨w3, hw3⟩ : ∃ w3, w2.setCell ⟨W.heap.size + 1, 8, none⟩ (.int .u32 2) = w3 := ⟨_, rfl⟩
  rw [hw3]
  have hw3' : w2.setCell ⟨W.heap.size + 1, 8, none⟩ (u 2#32) = w3 := hw3
  rw [hw3'] at HL3 HB3 HC3 HGC3
  clear hw3 hw3' hU hK1 HL2 HB2 HC2 n8 f8 HGC
  obtain ⟨s0, hs0⟩ : ∃ s0, s.to 2#32 = s0 := ⟨_, rfl⟩
  rw [hs0] at HL3
  clear hs0
  go_wp2_with fail
  refine (new_c (some ⟨gc, 0, none⟩) 6 (codeS hh) 4 (some ⟨w3.heap.size, 0, none⟩) 2 [77, 78] _ (HC3.out.below ((Below.refl _ _).alloc (Nat.le_refl _) _)) (lies_new w3 .u32 24 [77, 78]) (Nat.le_refl _) (by decide) HF.out (by decide)).mono ?_
  rintro e w4 ⟨h, rfl, hp4, hx4⟩
  have hx3 : Below w3.heap.size w3 w4 := ((Below.refl _ _).alloc (Nat.le_refl _) _).trans (hx4.mono (by simp))
  have HP4 := Lib.hid (show PP (w3.heap.size + 1) h ⟨codeS hh, noughts 4, [77, 78], 0, 0⟩ w4 from by have := hp4; simpa only [World.size_alloc] using this)
  have HSZ := Lib.hid (show w3.heap.size + 1 ≤ w4.heap.size from by have := hx4.size; simpa only [World.size_alloc] using this)
  have HL4 := Lib.hid (HL3.out.below hx3)
  have HB4 := Lib.hid (HB3.out.trans (hx3.mono HB3.out.size))
  have HC4 := Lib.hid (HC3.out.below hx3)
  clear hp4 hx4 hx3
  go_wp2_with fail
  refine (MmR.new_ (some ⟨gc, 0, none⟩) 6 (codeS hh) (some ⟨w4.heap.size, 0, none⟩) 2 [77, 78] _ (HC4.out.below ((Below.refl _ _).alloc (Nat.le_refl _) _)) (lies_new w4 .u32 24 [77, 78]) (show 6 ≤ 300 by decide) (show 2 ≤ 100 by decide) HF.out).mono ?_
  rintro e w5 ⟨h', rfl, hr5, hx5⟩
  have hx4 : Below w4.heap.size w4 w5 := ((Below.refl _ _).alloc (Nat.le_refl _) _).trans (hx5.mono (by simp))
  have HI := Lib.hid (show Bo W (w3.heap.size + 1) (w4.heap.size + 1) h h' ⟨codeS hh, noughts 4, [77, 78], 0, 0⟩ w5 from ⟨PM.below HP4.out hx4, by have := hr5; simpa only [World.size_alloc] using this, HB4.out.trans (hx4.mono HB4.out.size), fun k hk => Nat.lt_succ_of_lt (HP4.out.lt hk).2, by have := HB3.out.size; omega, by have := HSZ.out; omega⟩)
  have HL5 := Lib.hid (HL4.out.below hx4)
  have hq1 : W.heap.size + 1 + 1 < w3.heap.size + 1 := by have := HL3.out.b2.lt; omega
  have HQ1 := Lib.hid hq1
  clear hr5 hx5 hx4 HP4 HL4 HB4 HC4 HC3 HGC3 HL3 HB3 HF hgc hq1 HSZ
  generalize w3.heap.size + 1 = n1 at *
  generalize w4.heap.size + 1 = n2 at *
  have HM0 := Lib.hid (show (⟨codeS hh, noughts 4, [77, 78], 0, 0⟩ : St).W.length = 4 from noughts_len 4)
  generalize (⟨codeS hh, noughts 4, [77, 78], 0, 0⟩ : St) = m0 at *
  go_wp2_with fail
  go_loopw [12] (fun vk wr => ∃ k : Nat, k ≤ 4 ∧ vk = .int .i64 k ∧ Hid (Bo W n1 n2 h h' (mset (af a0 a1 a2 a3) k m0) wr) ∧ Hid (Lb W s0 a0 a1 a2 a3 wr)) (fun vk _ => 4 - (intOf vk).toNat)
  case atStart => exact ⟨0, by omega, rfl, HI, HL5⟩
  case round =>
    clear HI HL5
    obtain ⟨k, hk, rfl, HI, HL⟩ := hrel
    have hlen : (mset (af a0 a1 a2 a3) k m0).W.length = 4 := by rw [mset_len]; exact HM0.out
    by_cases hlt : k < 4
    · have hst : mset (af a0 a1 a2 a3) (k + 1) m0 = setS (mset (af a0 a1 a2 a3) k m0) k ((af a0 a1 a2 a3 k).toNat : Int) := rfl
      have hse := set_in_len (mset (af a0 a1 a2 a3) k m0) k ((af a0 a1 a2 a3 k).toNat : Int) (by omega)
      have hca : wr.cell? ⟨W.heap.size + 1 + 1, k, none⟩ = some (u (af a0 a1 a2 a3 k)) := (HL.out.b2.cell k).trans (af_get a0 a1 a2 a3 k hlt)
      generalize mset (af a0 a1 a2 a3) k m0 = mk at *
      generalize af a0 a1 a2 a3 k = ak at *
      have HST := Lib.hid hst; have HSE := Lib.hid hse; have HLEN := Lib.hid hlen; have HLT := Lib.hid hlt
      have hk4 : (k : Int) < 4 := by omega
      have hk0 : (0 : Int) ≤ (k : Int) := by omega
      clear hst hse hlen hlt
      go_wp2_with fail
      refine (Mm.set n1 h mk wr (k : Int) (ak.toNat : Int) ⟨by omega, bd ak⟩ HI.out.p).mono ?_
      rintro e w6 ⟨rfl, hp6, hu6⟩
      have HP6 := Lib.hid hp6; have HU6 := Lib.hid hu6
      have HR6 := Lib.hid (HI.out.r.upd hu6 HI.out.pr)
      have HL6 := Lib.hid (show Lb W s0 a0 a1 a2 a3 w6 from ⟨HI.out.box1 HL.out.b1 (by have := HQ1.out; omega) hu6, HI.out.box1 HL.out.b2 HQ1.out hu6⟩)
      obtain ⟨g, hg, hc, hfz⟩ := HR6.out.cellW (i := k) (by rw [HLEN.out]; exact HLT.out)
      have e1 : w6.cell? ⟨h'.r, 1, none⟩ = some (.slice (some ⟨g, 0, none⟩) mk.W.length h'.cW) := by rw [← hg]; exact HR6.out.blk.cell 1
      have hca6 : w6.cell? ⟨W.heap.size + 1 + 1, k, none⟩ = some (u ak) := by
        rw [← hca]; exact hu6.cell (p := ⟨W.heap.size + 1 + 1, k, none⟩) HL.out.b2.lt (fun hx => by have h1 := HI.out.p.X_low _ hx; have h2 := HQ1.out; simp only at h1; omega)
      have hkw : (k : Int) < (mk.W.length : Int) := by rw [HLEN.out]; exact hk4
      have HG := Lib.hid hg
      clear hp6 hu6 hg hca
      go_wp2_with fail
      go_still_tail 9, (by kernel_rfl)
      change wpList _ _ _ _ _ w6.drew
      have hwd := HR6.out.drew.word HG.out k (ak.toNat : Int) ⟨by omega, bd ak⟩
      have hgq : g ≠ W.heap.size + 1 ∧ g ≠ W.heap.size + 1 + 1 := by
        have h1 := (HR6.out.lt (.inr (.inr (.inl HG.out)))).1
        have h2 := HQ1.out; have h3 := HI.out.l2
        omega
      have HIN := Lib.hid (show Bo W n1 n2 h h' (mset (af a0 a1 a2 a3) (k + 1) m0) (w6.drew.setCell ⟨g, k, none⟩ (u ak)) from by
        rw [HST.out]
        exact Bo.both HI.out HP6.out HU6.out (by rw [HSE.out]; exact hwd.1) (((Upd.refl h'.X w6).drew).trans hwd.2))
      have HLN := Lib.hid (show Lb W s0 a0 a1 a2 a3 (w6.drew.setCell ⟨g, k, none⟩ (u ak)) from ⟨Blk.upd (w := w6.drew) HL6.out.b1 (upd_set w6.drew g k (u ak) (Upd.refl _ _)) (fun e => hgq.1 e.symm), Blk.upd (w := w6.drew) HL6.out.b2 (upd_set w6.drew g k (u ak) (Upd.refl _ _)) (fun e => hgq.2 e.symm)⟩)
      have k1 : w6.drew.cell? ⟨g, k, none⟩ = some (.int .u32 (mk.W.getD k 0)) := hc
      have k2 : w6.drew.frozen? ⟨g, k, none⟩ = false := hfz
      clear hwd hc hfz e1 hca6 HP6 HU6 HR6 HL6
      generalize w6.drew = w7 at *
      go_wp2_with fail
      go_roundw
      case rel => exact ⟨k + 1, by have := HLT.out; omega, by go_num, HIN, HLN⟩
      case measure => have := HLT.out; simp [intOf]; omega
    · obtain rfl : k = 4 := by omega
      generalize mset (af a0 a1 a2 a3) 4 m0 = m1 at *
      rcases hq : stepV s0 m1 with ⟨x, st, er, m2⟩
      have hcs := cstep s0 n1 h m1 wr HI.out.p (HT.out.below HI.out.lo)
      have hrs := fun w p => rstep s0 n2 h' m1 w p
      have hl2 := stepV_len s0 m1
      rw [hq] at hcs hrs hl2
      have HM2 := Lib.hid (show m2.W.length ≤ 100000 from by have h1 : m2.W.length = m1.W.length := hl2; omega)
      have HCS := Lib.hid hcs; have HRS := Lib.hid hrs
      clear hcs hrs hq hl2 hlen
      obtain ⟨n0, n1, n2, n3, n4, n5, n6, n7, n8, n9, n10, n11, n12⟩ := Blk.cells13 HL.out.b1
      go_wp2_with fail
      refine HCS.out.mono ?_
      rintro e w6 ⟨rfl, hp6, hu6⟩
      have HP6 := Lib.hid hp6; have HU6 := Lib.hid hu6
      have HR6 := Lib.hid (HI.out.r.upd hu6 HI.out.pr)
      have HL6 := Lib.hid (show Lb W s0 a0 a1 a2 a3 w6 from ⟨HI.out.box1 HL.out.b1 (by have := HQ1.out; omega) hu6, HI.out.box1 HL.out.b2 HQ1.out hu6⟩)
      clear hp6 hu6 n0 n1 n2 n3 n4 n5 n6 n7 n8 n9 n10 n11 n12 HCS
      go_upto_region 15 with fail
      have hx6 : Below w6.heap.size w6 (w6.alloc (.cells (sC x) 27)) := (Below.refl _ _).alloc (Nat.le_refl _) _
      have HP7 := Lib.hid (PM.below HP6.out hx6)
      have HR7 := Lib.hid (PM.below HR6.out hx6)
      have HL7 := Lib.hid (HL6.out.below hx6)
      have HU7 := Lib.hid (HU6.out.trans (Upd.of_below hx6 h.X))
      have HKX := Lib.hid (Blk.new w6 27 (sC x))
      have HXB := Lib.hid (show ∀ q, h'.X q → q < w6.heap.size from fun q hq => (HR6.out.lt (Hd.XB hq)).2)
      obtain ⟨w7, hw7⟩ : ∃ w7, w6.alloc (.cells (sC x) 27) = w7 := ⟨_, rfl⟩
      rw [hw7] at HP7 HR7 HL7 HU7 HKX
      simp only [sC] at hw7
      rw [hw7]
      generalize w6.heap.size = gx at *
      clear hw7 hx6 HP6 HR6 HL6 HU6
      obtain ⟨n0, n1, n2, n3, n4, n5, n6, n7, n8, n9, n10, n11, n12⟩ := Blk.cells13 HL7.out.b1
      go_wp2_with fail
      refine (HRS.out _ HR7.out).mono ?_
      rintro e w8 ⟨rfl, hr8, hu8⟩
      have HI8 := Lib.hid (Bo.both HI.out HP7.out HU7.out hr8 hu8)
      have HX8 := Lib.hid (HKX.out.upd hu8 (fun hq => by have := HXB.out _ hq; omega))
      clear hr8 hu8 n0 n1 n2 n3 n4 n5 n6 n7 n8 n9 n10 n11 n12 HRS HP7 HR7 HL7 HU7 HKX HXB
      go_upto_region 16 with fail
      have hx8 : Below w8.heap.size w8 (w8.alloc (.cells (sC x) 27)) := (Below.refl _ _).alloc (Nat.le_refl _) _
      have HI9 := Lib.hid (Bo.ext HI8.out hx8)
      have HX9 := Lib.hid (Blk.below HX8.out hx8 HX8.out.lt)
      have HY9 := Lib.hid (Blk.new w8 27 (sC x))
      obtain ⟨w9, hw9⟩ : ∃ w9, w8.alloc (.cells (sC x) 27) = w9 := ⟨_, rfl⟩
      rw [hw9] at HI9 HX9 HY9
      simp only [sC] at hw9
      rw [hw9]
      generalize w8.heap.size = gy at *
      clear hw9 hx8 HI8 HX8 HI HL
      have HID := Lib.hid (show Bo W n1 n2 h h' m2 w9.drew from Bo.ext HI9.out ((Below.refl _ _).drew))
      have HL0 := Lib.hid (show w9.cell? ⟨gx, 0, none⟩ = some (u (x.r 0)) ∧ w9.cell? ⟨gx, 1, none⟩ = some (u (x.r 1)) ∧ w9.cell? ⟨gx, 2, none⟩ = some (u (x.r 2)) ∧ w9.cell? ⟨gx, 3, none⟩ = some (u (x.r 3)) ∧ w9.cell? ⟨gx, 4, none⟩ = some (u (x.r 4)) ∧ w9.cell? ⟨gx, 5, none⟩ = some (u (x.r 5)) ∧ w9.cell? ⟨gx, 6, none⟩ = some (u (x.r 6)) ∧ w9.cell? ⟨gx, 7, none⟩ = some (u (x.r 7)) ∧ w9.cell? ⟨gx, 8, none⟩ = some (u x.pc) ∧ w9.cell? ⟨gx, 9, none⟩ = some (.bool x.n) ∧ w9.cell? ⟨gx, 10, none⟩ = some (.bool x.z) ∧ w9.cell? ⟨gx, 11, none⟩ = some (.bool x.c) ∧ w9.cell? ⟨gx, 12, none⟩ = some (.bool x.v) ∧ w9.cell? ⟨gy, 0, none⟩ = some (u (x.r 0)) ∧ w9.cell? ⟨gy, 1, none⟩ = some (u (x.r 1)) ∧ w9.cell? ⟨gy, 2, none⟩ = some (u (x.r 2)) ∧ w9.cell? ⟨gy, 3, none⟩ = some (u (x.r 3)) ∧ w9.cell? ⟨gy, 4, none⟩ = some (u (x.r 4)) ∧ w9.cell? ⟨gy, 5, none⟩ = some (u (x.r 5)) ∧ w9.cell? ⟨gy, 6, none⟩ = some (u (x.r 6)) ∧ w9.cell? ⟨gy, 7, none⟩ = some (u (x.r 7)) ∧ w9.cell? ⟨gy, 8, none⟩ = some (u x.pc) ∧ w9.cell? ⟨gy, 9, none⟩ = some (.bool x.n) ∧ w9.cell? ⟨gy, 10, none⟩ = some (.bool x.z) ∧ w9.cell? ⟨gy, 11, none⟩ = some (.bool x.c) ∧ w9.cell? ⟨gy, 12, none⟩ = some (.bool x.v) ∧ w9.cell? ⟨h'.r, 1, none⟩ = some (.slice h'.AW m2.W.length h'.cW) ∧ w9.cell? ⟨h'.r, 3, none⟩ = some (.int .i64 m2.d) ∧ w9.cell? ⟨h'.r, 4, none⟩ = some (.int .u32 m2.b) from ⟨HX9.out.cell 0, HX9.out.cell 1, HX9.out.cell 2, HX9.out.cell 3, HX9.out.cell 4, HX9.out.cell 5, HX9.out.cell 6, HX9.out.cell 7, HX9.out.cell 8, HX9.out.cell 9, HX9.out.cell 10, HX9.out.cell 11, HX9.out.cell 12, HY9.out.cell 0, HY9.out.cell 1, HY9.out.cell 2, HY9.out.cell 3, HY9.out.cell 4, HY9.out.cell 5, HY9.out.cell 6, HY9.out.cell 7, HY9.out.cell 8, HY9.out.cell 9, HY9.out.cell 10, HY9.out.cell 11, HY9.out.cell 12, HI9.out.r.blk.cell 1, HI9.out.r.blk.cell 3, HI9.out.r.blk.cell 4⟩)
      have HL0d := Lib.hid (show w9.drew.cell? ⟨gx, 0, none⟩ = some (u (x.r 0)) ∧ w9.drew.cell? ⟨gx, 1, none⟩ = some (u (x.r 1)) ∧ w9.drew.cell? ⟨gx, 2, none⟩ = some (u (x.r 2)) ∧ w9.drew.cell? ⟨gx, 3, none⟩ = some (u (x.r 3)) ∧ w9.drew.cell? ⟨gx, 4, none⟩ = some (u (x.r 4)) ∧ w9.drew.cell? ⟨gx, 5, none⟩ = some (u (x.r 5)) ∧ w9.drew.cell? ⟨gx, 6, none⟩ = some (u (x.r 6)) ∧ w9.drew.cell? ⟨gx, 7, none⟩ = some (u (x.r 7)) ∧ w9.drew.cell? ⟨gx, 8, none⟩ = some (u x.pc) ∧ w9.drew.cell? ⟨gx, 9, none⟩ = some (.bool x.n) ∧ w9.drew.cell? ⟨gx, 10, none⟩ = some (.bool x.z) ∧ w9.drew.cell? ⟨gx, 11, none⟩ = some (.bool x.c) ∧ w9.drew.cell? ⟨gx, 12, none⟩ = some (.bool x.v) ∧ w9.drew.cell? ⟨gy, 0, none⟩ = some (u (x.r 0)) ∧ w9.drew.cell? ⟨gy, 1, none⟩ = some (u (x.r 1)) ∧ w9.drew.cell? ⟨gy, 2, none⟩ = some (u (x.r 2)) ∧ w9.drew.cell? ⟨gy, 3, none⟩ = some (u (x.r 3)) ∧ w9.drew.cell? ⟨gy, 4, none⟩ = some (u (x.r 4)) ∧ w9.drew.cell? ⟨gy, 5, none⟩ = some (u (x.r 5)) ∧ w9.drew.cell? ⟨gy, 6, none⟩ = some (u (x.r 6)) ∧ w9.drew.cell? ⟨gy, 7, none⟩ = some (u (x.r 7)) ∧ w9.drew.cell? ⟨gy, 8, none⟩ = some (u x.pc) ∧ w9.drew.cell? ⟨gy, 9, none⟩ = some (.bool x.n) ∧ w9.drew.cell? ⟨gy, 10, none⟩ = some (.bool x.z) ∧ w9.drew.cell? ⟨gy, 11, none⟩ = some (.bool x.c) ∧ w9.drew.cell? ⟨gy, 12, none⟩ = some (.bool x.v) ∧ w9.drew.cell? ⟨h'.r, 1, none⟩ = some (.slice h'.AW m2.W.length h'.cW) ∧ w9.drew.cell? ⟨h'.r, 3, none⟩ = some (.int .i64 m2.d) ∧ w9.drew.cell? ⟨h'.r, 4, none⟩ = some (.int .u32 m2.b) from ⟨HX9.out.cell 0, HX9.out.cell 1, HX9.out.cell 2, HX9.out.cell 3, HX9.out.cell 4, HX9.out.cell 5, HX9.out.cell 6, HX9.out.cell 7, HX9.out.cell 8, HX9.out.cell 9, HX9.out.cell 10, HX9.out.cell 11, HX9.out.cell 12, HY9.out.cell 0, HY9.out.cell 1, HY9.out.cell 2, HY9.out.cell 3, HY9.out.cell 4, HY9.out.cell 5, HY9.out.cell 6, HY9.out.cell 7, HY9.out.cell 8, HY9.out.cell 9, HY9.out.cell 10, HY9.out.cell 11, HY9.out.cell 12, HI9.out.r.blk.cell 1, HI9.out.r.blk.cell 3, HI9.out.r.blk.cell 4⟩)
      have hEq := eq_state x
      have hG : Tryd.prog.eqGuardType Tryd.prog.depth 27 = false := by kernel_rfl
      go_region_held3 (fun w' => w'.cell? ⟨gx, 0, none⟩ = some (u (x.r 0)) ∧ w'.cell? ⟨gx, 1, none⟩ = some (u (x.r 1)) ∧ w'.cell? ⟨gx, 2, none⟩ = some (u (x.r 2)) ∧ w'.cell? ⟨gx, 3, none⟩ = some (u (x.r 3)) ∧ w'.cell? ⟨gx, 4, none⟩ = some (u (x.r 4)) ∧ w'.cell? ⟨gx, 5, none⟩ = some (u (x.r 5)) ∧ w'.cell? ⟨gx, 6, none⟩ = some (u (x.r 6)) ∧ w'.cell? ⟨gx, 7, none⟩ = some (u (x.r 7)) ∧ w'.cell? ⟨gx, 8, none⟩ = some (u x.pc) ∧ w'.cell? ⟨gx, 9, none⟩ = some (.bool x.n) ∧ w'.cell? ⟨gx, 10, none⟩ = some (.bool x.z) ∧ w'.cell? ⟨gx, 11, none⟩ = some (.bool x.c) ∧ w'.cell? ⟨gx, 12, none⟩ = some (.bool x.v) ∧ w'.cell? ⟨gy, 0, none⟩ = some (u (x.r 0)) ∧ w'.cell? ⟨gy, 1, none⟩ = some (u (x.r 1)) ∧ w'.cell? ⟨gy, 2, none⟩ = some (u (x.r 2)) ∧ w'.cell? ⟨gy, 3, none⟩ = some (u (x.r 3)) ∧ w'.cell? ⟨gy, 4, none⟩ = some (u (x.r 4)) ∧ w'.cell? ⟨gy, 5, none⟩ = some (u (x.r 5)) ∧ w'.cell? ⟨gy, 6, none⟩ = some (u (x.r 6)) ∧ w'.cell? ⟨gy, 7, none⟩ = some (u (x.r 7)) ∧ w'.cell? ⟨gy, 8, none⟩ = some (u x.pc) ∧ w'.cell? ⟨gy, 9, none⟩ = some (.bool x.n) ∧ w'.cell? ⟨gy, 10, none⟩ = some (.bool x.z) ∧ w'.cell? ⟨gy, 11, none⟩ = some (.bool x.c) ∧ w'.cell? ⟨gy, 12, none⟩ = some (.bool x.v) ∧ w'.cell? ⟨h'.r, 1, none⟩ = some (.slice h'.AW m2.W.length h'.cW) ∧ w'.cell? ⟨h'.r, 3, none⟩ = some (.int .i64 m2.d) ∧ w'.cell? ⟨h'.r, 4, none⟩ = some (.int .u32 m2.b)) (first | with_reducible exact HL0.out | with_reducible exact HL0d.out | with_reducible exact HL1.out | with_reducible exact HL2.out | with_reducible exact HL3.out) (first | (go_at_call 9; refine (lives _ (HT.out.below HI11.out.lo)).mono ?_; rintro e w12 ⟨rfl, hb12⟩; have HI12 := Lib.hid (Bo.ext HI11.out hb12); have HX12 := Lib.hid (Blk.below HX11.out hb12 HX11.out.lt); have HY12 := Lib.hid (Blk.below HY11.out hb12 HY11.out.lt); have HL3 := Lib.hid (show w12.cell? ⟨gx, 0, none⟩ = some (u (x.r 0)) ∧ w12.cell? ⟨gx, 1, none⟩ = some (u (x.r 1)) ∧ w12.cell? ⟨gx, 2, none⟩ = some (u (x.r 2)) ∧ w12.cell? ⟨gx, 3, none⟩ = some (u (x.r 3)) ∧ w12.cell? ⟨gx, 4, none⟩ = some (u (x.r 4)) ∧ w12.cell? ⟨gx, 5, none⟩ = some (u (x.r 5)) ∧ w12.cell? ⟨gx, 6, none⟩ = some (u (x.r 6)) ∧ w12.cell? ⟨gx, 7, none⟩ = some (u (x.r 7)) ∧ w12.cell? ⟨gx, 8, none⟩ = some (u x.pc) ∧ w12.cell? ⟨gx, 9, none⟩ = some (.bool x.n) ∧ w12.cell? ⟨gx, 10, none⟩ = some (.bool x.z) ∧ w12.cell? ⟨gx, 11, none⟩ = some (.bool x.c) ∧ w12.cell? ⟨gx, 12, none⟩ = some (.bool x.v) ∧ w12.cell? ⟨gy, 0, none⟩ = some (u (x.r 0)) ∧ w12.cell? ⟨gy, 1, none⟩ = some (u (x.r 1)) ∧ w12.cell? ⟨gy, 2, none⟩ = some (u (x.r 2)) ∧ w12.cell? ⟨gy, 3, none⟩ = some (u (x.r 3)) ∧ w12.cell? ⟨gy, 4, none⟩ = some (u (x.r 4)) ∧ w12.cell? ⟨gy, 5, none⟩ = some (u (x.r 5)) ∧ w12.cell? ⟨gy, 6, none⟩ = some (u (x.r 6)) ∧ w12.cell? ⟨gy, 7, none⟩ = some (u (x.r 7)) ∧ w12.cell? ⟨gy, 8, none⟩ = some (u x.pc) ∧ w12.cell? ⟨gy, 9, none⟩ = some (.bool x.n) ∧ w12.cell? ⟨gy, 10, none⟩ = some (.bool x.z) ∧ w12.cell? ⟨gy, 11, none⟩ = some (.bool x.c) ∧ w12.cell? ⟨gy, 12, none⟩ = some (.bool x.v) ∧ w12.cell? ⟨h'.r, 1, none⟩ = some (.slice h'.AW m2.W.length h'.cW) ∧ w12.cell? ⟨h'.r, 3, none⟩ = some (.int .i64 m2.d) ∧ w12.cell? ⟨h'.r, 4, none⟩ = some (.int .u32 m2.b) from ⟨HX12.out.cell 0, HX12.out.cell 1, HX12.out.cell 2, HX12.out.cell 3, HX12.out.cell 4, HX12.out.cell 5, HX12.out.cell 6, HX12.out.cell 7, HX12.out.cell 8, HX12.out.cell 9, HX12.out.cell 10, HX12.out.cell 11, HX12.out.cell 12, HY12.out.cell 0, HY12.out.cell 1, HY12.out.cell 2, HY12.out.cell 3, HY12.out.cell 4, HY12.out.cell 5, HY12.out.cell 6, HY12.out.cell 7, HY12.out.cell 8, HY12.out.cell 9, HY12.out.cell 10, HY12.out.cell 11, HY12.out.cell 12, HI12.out.r.blk.cell 1, HI12.out.r.blk.cell 3, HI12.out.r.blk.cell 4⟩); clear hb12) | (go_at_call 18; refine (Mm.drawn _ h _ _ HI11.out.p).mono ?_; rintro e w' ⟨rfl, rfl⟩) | (go_at_call 17; refine (Mm.bus _ h _ _ HI11.out.p).mono ?_; rintro e w' ⟨rfl, rfl⟩) | (go_at_call 15; refine (MmR.same _ _ _ _ m2.W _ (lies_own HO10.out) (lies_own HI10.out.r.ow) HM2.out).mono ?_; rintro e w11 ⟨rfl, hb11⟩; have HI11 := Lib.hid (Bo.ext HI10.out hb11); have HX11 := Lib.hid (Blk.below HX10.out hb11 HX10.out.lt); have HY11 := Lib.hid (Blk.below HY10.out hb11 HY10.out.lt); have HL2 := Lib.hid (show w11.cell? ⟨gx, 0, none⟩ = some (u (x.r 0)) ∧ w11.cell? ⟨gx, 1, none⟩ = some (u (x.r 1)) ∧ w11.cell? ⟨gx, 2, none⟩ = some (u (x.r 2)) ∧ w11.cell? ⟨gx, 3, none⟩ = some (u (x.r 3)) ∧ w11.cell? ⟨gx, 4, none⟩ = some (u (x.r 4)) ∧ w11.cell? ⟨gx, 5, none⟩ = some (u (x.r 5)) ∧ w11.cell? ⟨gx, 6, none⟩ = some (u (x.r 6)) ∧ w11.cell? ⟨gx, 7, none⟩ = some (u (x.r 7)) ∧ w11.cell? ⟨gx, 8, none⟩ = some (u x.pc) ∧ w11.cell? ⟨gx, 9, none⟩ = some (.bool x.n) ∧ w11.cell? ⟨gx, 10, none⟩ = some (.bool x.z) ∧ w11.cell? ⟨gx, 11, none⟩ = some (.bool x.c) ∧ w11.cell? ⟨gx, 12, none⟩ = some (.bool x.v) ∧ w11.cell? ⟨gy, 0, none⟩ = some (u (x.r 0)) ∧ w11.cell? ⟨gy, 1, none⟩ = some (u (x.r 1)) ∧ w11.cell? ⟨gy, 2, none⟩ = some (u (x.r 2)) ∧ w11.cell? ⟨gy, 3, none⟩ = some (u (x.r 3)) ∧ w11.cell? ⟨gy, 4, none⟩ = some (u (x.r 4)) ∧ w11.cell? ⟨gy, 5, none⟩ = some (u (x.r 5)) ∧ w11.cell? ⟨gy, 6, none⟩ = some (u (x.r 6)) ∧ w11.cell? ⟨gy, 7, none⟩ = some (u (x.r 7)) ∧ w11.cell? ⟨gy, 8, none⟩ = some (u x.pc) ∧ w11.cell? ⟨gy, 9, none⟩ = some (.bool x.n) ∧ w11.cell? ⟨gy, 10, none⟩ = some (.bool x.z) ∧ w11.cell? ⟨gy, 11, none⟩ = some (.bool x.c) ∧ w11.cell? ⟨gy, 12, none⟩ = some (.bool x.v) ∧ w11.cell? ⟨h'.r, 1, none⟩ = some (.slice h'.AW m2.W.length h'.cW) ∧ w11.cell? ⟨h'.r, 3, none⟩ = some (.int .i64 m2.d) ∧ w11.cell? ⟨h'.r, 4, none⟩ = some (.int .u32 m2.b) from ⟨HX11.out.cell 0, HX11.out.cell 1, HX11.out.cell 2, HX11.out.cell 3, HX11.out.cell 4, HX11.out.cell 5, HX11.out.cell 6, HX11.out.cell 7, HX11.out.cell 8, HX11.out.cell 9, HX11.out.cell 10, HX11.out.cell 11, HX11.out.cell 12, HY11.out.cell 0, HY11.out.cell 1, HY11.out.cell 2, HY11.out.cell 3, HY11.out.cell 4, HY11.out.cell 5, HY11.out.cell 6, HY11.out.cell 7, HY11.out.cell 8, HY11.out.cell 9, HY11.out.cell 10, HY11.out.cell 11, HY11.out.cell 12, HI11.out.r.blk.cell 1, HI11.out.r.blk.cell 3, HI11.out.r.blk.cell 4⟩); clear hb11) | (go_at_call 16; refine (Mm.words _ h _ _ HID.out.p).mono ?_; rintro e w10 ⟨A5, c5, rfl, ho10, hx10⟩; have HI10 := Lib.hid (Bo.ext HID.out hx10); have HO10 := Lib.hid ho10; have HX10 := Lib.hid (Blk.below (w := w9.drew) HX9.out hx10 HX9.out.lt); have HY10 := Lib.hid (Blk.below (w := w9.drew) HY9.out hx10 HY9.out.lt); have HL1 := Lib.hid (show w10.cell? ⟨gx, 0, none⟩ = some (u (x.r 0)) ∧ w10.cell? ⟨gx, 1, none⟩ = some (u (x.r 1)) ∧ w10.cell? ⟨gx, 2, none⟩ = some (u (x.r 2)) ∧ w10.cell? ⟨gx, 3, none⟩ = some (u (x.r 3)) ∧ w10.cell? ⟨gx, 4, none⟩ = some (u (x.r 4)) ∧ w10.cell? ⟨gx, 5, none⟩ = some (u (x.r 5)) ∧ w10.cell? ⟨gx, 6, none⟩ = some (u (x.r 6)) ∧ w10.cell? ⟨gx, 7, none⟩ = some (u (x.r 7)) ∧ w10.cell? ⟨gx, 8, none⟩ = some (u x.pc) ∧ w10.cell? ⟨gx, 9, none⟩ = some (.bool x.n) ∧ w10.cell? ⟨gx, 10, none⟩ = some (.bool x.z) ∧ w10.cell? ⟨gx, 11, none⟩ = some (.bool x.c) ∧ w10.cell? ⟨gx, 12, none⟩ = some (.bool x.v) ∧ w10.cell? ⟨gy, 0, none⟩ = some (u (x.r 0)) ∧ w10.cell? ⟨gy, 1, none⟩ = some (u (x.r 1)) ∧ w10.cell? ⟨gy, 2, none⟩ = some (u (x.r 2)) ∧ w10.cell? ⟨gy, 3, none⟩ = some (u (x.r 3)) ∧ w10.cell? ⟨gy, 4, none⟩ = some (u (x.r 4)) ∧ w10.cell? ⟨gy, 5, none⟩ = some (u (x.r 5)) ∧ w10.cell? ⟨gy, 6, none⟩ = some (u (x.r 6)) ∧ w10.cell? ⟨gy, 7, none⟩ = some (u (x.r 7)) ∧ w10.cell? ⟨gy, 8, none⟩ = some (u x.pc) ∧ w10.cell? ⟨gy, 9, none⟩ = some (.bool x.n) ∧ w10.cell? ⟨gy, 10, none⟩ = some (.bool x.z) ∧ w10.cell? ⟨gy, 11, none⟩ = some (.bool x.c) ∧ w10.cell? ⟨gy, 12, none⟩ = some (.bool x.v) ∧ w10.cell? ⟨h'.r, 1, none⟩ = some (.slice h'.AW m2.W.length h'.cW) ∧ w10.cell? ⟨h'.r, 3, none⟩ = some (.int .i64 m2.d) ∧ w10.cell? ⟨h'.r, 4, none⟩ = some (.int .u32 m2.b) from ⟨HX10.out.cell 0, HX10.out.cell 1, HX10.out.cell 2, HX10.out.cell 3, HX10.out.cell 4, HX10.out.cell 5, HX10.out.cell 6, HX10.out.cell 7, HX10.out.cell 8, HX10.out.cell 9, HX10.out.cell 10, HX10.out.cell 11, HX10.out.cell 12, HY10.out.cell 0, HY10.out.cell 1, HY10.out.cell 2, HY10.out.cell 3, HY10.out.cell 4, HY10.out.cell 5, HY10.out.cell 6, HY10.out.cell 7, HY10.out.cell 8, HY10.out.cell 9, HY10.out.cell 10, HY10.out.cell 11, HY10.out.cell 12, HI10.out.r.blk.cell 1, HI10.out.r.blk.cell 3, HI10.out.r.blk.cell 4⟩); clear ho10 hx10))
      all_goals
        go_wp2_with fail
        go_ret
        exact ⟨rfl, HI12.out.lo⟩
end Go.Proofs.YtkipfeljpngkeaaDoor.Co
