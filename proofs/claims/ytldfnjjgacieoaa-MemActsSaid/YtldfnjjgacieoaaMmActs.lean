/- DERIVED. The walk of MemActs. By an AI agent. -/
import Derived.Test.YtldfnjjgacieoaaMmRef2
import Derived.Test.YtldfnjjgacieoaaMmOwn
import Derived.Test.YtldfnjjgacieoaaActs
import Derived.Deep.RegionHeld3
namespace Go.Proofs.Ytldfnjjgacieoaa.memActs
open Go.ChangeShapes Go.WideShapes Go.ChangeAt Go.RowKit Args Mm MmR
set_option linter.unusedVariables false
/-- Both memories, over the same state, apart. -/
structure IV (W : World) (n1 n2 : Nat) (h h' : Hd) (s : St) (w : World) : Prop where
  p : PP n1 h s w
  r : RP n2 h' s w
  lo : Below W.heap.size W w
  len : s.W.length = 9
  sep : ∀ k, h.B k → k < n2
  l1 : W.heap.size ≤ n1
  l2 : W.heap.size ≤ n2
section
variable {W w w1 w2 : World} {n1 n2 : Nat} {h h' : Hd} {s s' : St}
theorem IV.px (i : IV W n1 n2 h h' s w) : ∀ k, h.X k → W.heap.size ≤ k := fun k hk => Nat.le_trans i.l1 (i.p.X_low k hk)
theorem IV.rx (i : IV W n1 n2 h h' s w) : ∀ k, h'.X k → W.heap.size ≤ k := fun k hk => Nat.le_trans i.l2 (i.r.X_low k hk)
theorem IV.pr (i : IV W n1 n2 h h' s w) : ∀ k, h'.B k → ¬ h.X k := fun k hk hx => by have h1 := (i.r.lt hk).1; have h2 := i.sep k (Hd.XB hx); omega
theorem IV.rp (i : IV W n1 n2 h h' s w) : ∀ k, h.B k → ¬ h'.X k := fun k hk hx => by have h1 := (i.r.lt (Hd.XB hx)).1; have h2 := i.sep k hk; omega
theorem IV.far (i : IV W n1 n2 h h' s w) {b : Nat} (hb : w.heap.size ≤ b) : ¬ h.X b ∧ ¬ h'.X b := ⟨fun hx => by have := (i.p.lt (Hd.XB hx)).2; omega, fun hx => by have := (i.r.lt (Hd.XB hx)).2; omega⟩
theorem IV.ext (i : IV W n1 n2 h h' s w) (he : Ext w w1) : IV W n1 n2 h h' s w1 := ⟨i.p.below he, i.r.below he, i.lo.trans (he.mono i.lo.size), i.len, i.sep, i.l1, i.l2⟩
theorem IV.drew (i : IV W n1 n2 h h' s w) : IV W n1 n2 h h' s w.drew := i.ext (Ext.drew w)
theorem IV.drewN (i : IV W n1 n2 h h' s w) (n : Nat) : IV W n1 n2 h h' s (w.drewN n) := i.ext (show Ext _ _ from Upd.below (upd_drewN (fun _ => False) w n) (Nat.le_refl _) nofun)
/-- The program's turn, then the reference's. -/
theorem IV.both (i : IV W n1 n2 h h' s w) (p1 : PP n1 h s' w1) (u1 : Upd h.X w w1) (r2 : RP n2 h' s' w2) (u2 : Upd h'.X w1 w2) (hl : s'.W.length = 9) : IV W n1 n2 h h' s' w2 :=
  ⟨p1.upd u2 i.rp, r2, below_upd (below_upd i.lo u1 i.px) u2 i.rx, hl, i.sep, i.l1, i.l2⟩
/-- The reference's turn, then the program's. -/
theorem IV.both' (i : IV W n1 n2 h h' s w) (r1 : RP n2 h' s' w1) (u1 : Upd h'.X w w1) (p2 : PP n1 h s' w2) (u2 : Upd h.X w1 w2) (hl : s'.W.length = 9) : IV W n1 n2 h h' s' w2 :=
  ⟨p2, r1.upd u2 i.pr, below_upd (below_upd i.lo u1 i.rx) u2 i.px, hl, i.sep, i.l1, i.l2⟩
end
theorem u32_bd {z : Int} (h : (Lit.int .u32 z).wf = true) : 0 ≤ z ∧ z < 4294967296 := wf_u32 h
set_option maxRecDepth 100000 in
set_option maxHeartbeats 40000000 in
theorem walk (W : World) (v : Value) (zs : List Int) (hv : Ints .u16 2 W v zs) (v2 : Value) (ys : List Int) (hv2 : Ints .u32 4 W v2 ys) (v3 : Value) (l : List Ac) (hv3 : Acs W v3 l) :
    Calls Try.prog 3 #[v, v2, v3] W fun e w' => e = .returned (.bool true) ∧ Below W.heap.size W w' := by
  obtain ⟨A, cap, rfl, hlc, hcm, hL⟩ := hv.ex
  obtain ⟨B, cap2, rfl, hlc2, hcm2, hL2⟩ := hv2.ex
  obtain ⟨D, cap3, rfl, hlc3, hcm3, hL3⟩ := hv3.ex
  have hsh := short_w A cap zs B cap2 ys W hL hL2 hlc hcm hlc2 hcm2
  have hf : Fit ⟨zs.take 300, noughts 9, ys.take 100, 0, 0⟩ := fit_take 9 hv.wf hv2.wf (by decide)
  have hcl : (zs.take 300).length ≤ 300 := by rw [List.length_take]; omega
  have htl : (ys.take 100).length ≤ 100 := by rw [List.length_take]; omega
  have hwf := hv3.wf
  have hre := hv3.reach
  generalize zs.take 300 = C at hsh hf hcl
  generalize ys.take 100 = T at hsh hf htl
  have hnw := fun A1 c1 A3 c3 w h1 h3 g1 g2 => new_c A1 c1 C 9 A3 c3 T w h1 h3 g1 g2 hf (by omega)
  have hrn := fun A1 c1 A3 c3 w h1 h3 => MmR.new_ A1 c1 C A3 c3 T w h1 h3 hcl htl hf
  have HS := Lib.hid hsh; have HN := Lib.hid hnw; have HRN := Lib.hid hrn; have HL3 := Lib.hid hL3; have HWF := Lib.hid hwf
  have hll : l.length ≤ 140737488351232 := by omega
  clear hsh hnw hrn hL hL2 hL3 hv hv2 hv3 hlc hcm hlc2 hcm2 hlc3 hcm3 hf hwf hre hcl htl
  go_enter Try.func3, Try.ntmps3
  go_wp2_with fail
  refine HS.out.mono ?_
  rintro e w1 ⟨A1, c1, A3, c3, rfl, h1, h2, h3, h4, ho1, ho3, hsep, hx⟩
  have H1 := Lib.hid h1; have H2 := Lib.hid h2
  have HX := Lib.hid hx; have HO1 := Lib.hid ho1; have HO3 := Lib.hid ho3
  clear hx ho1 ho3 hsep h1 h2 h3 h4 HS
  go_wp2_with fail
  refine (HN.out _ _ _ _ _ (lies_own HO1.out) (lies_own HO3.out) H1.out H2.out).mono ?_
  rintro e w2 ⟨h, rfl, hp, hx⟩
  have HX2 := Lib.hid hx; have HP := Lib.hid hp
  clear hx hp HN
  go_wp2_with fail
  refine (HRN.out _ _ _ _ _ (lies_own (Ext.own HX2.out HO1.out)) (lies_own (Ext.own HX2.out HO3.out))).mono ?_
  rintro e w3 ⟨h', rfl, hr, hx⟩
  have HI := Lib.hid (show IV W w1.heap.size w2.heap.size h h' ⟨C, noughts 9, T, 0, 0⟩ w3 from ⟨PM.below HP.out hx, hr, (HX.out.trans HX2.out).trans hx, noughts_len 9, fun k hk => (HP.out.lt hk).2, HX.out.size, (HX.out.trans HX2.out).size⟩)
  clear hx hr HP HX HX2 HO1 HO3 H1 H2 HRN
  generalize w1.heap.size = n1 at *
  generalize w2.heap.size = n2 at *
  go_wp2_with fail
  go_loopw [9] (fun vi wr => ∃ (k : Nat) (s : St), k ≤ l.length ∧ k ≤ 60 ∧ vi = .int .i64 k ∧ Hid (IV W n1 n2 h h' s wr)) (fun vi _ => 60 - (intOf vi).toNat)
  case atStart => exact ⟨0, _, by omega, by omega, rfl, HI⟩
  case round =>
    obtain ⟨k, s, hk, hk6, rfl, HH⟩ := hrel
    clear HI
    by_cases hlt : k < l.length ∧ k < 60
    · obtain ⟨hl1, hl2⟩ := hlt
      have hlt2 := hl2
      obtain ⟨c, hc⟩ : ∃ c, l[k]? = some c := ⟨_, List.getElem?_eq_getElem hl1⟩
      obtain ⟨x1, x2, x3⟩ := flat3 l k c hc
      obtain ⟨b, o, rfl, _, hcell⟩ := (HL3.out.kept (Nat.le_refl _) HH.out.lo fun j u a hj ha => (by
        obtain ⟨a', e', hc'⟩ := HL3.out j u hj
        rw [ha] at e'; cases e'
        exact World.block_lt_of_cell? _ _ hc')).at_ x1
      have d1 := hcell _ _ x1
      have d2 : wr.cell? ⟨b, o + k * 3 + 1, none⟩ = some (.int .u32 c.a) := by rw [Nat.add_assoc]; exact hcell _ _ x2
      have d3 : wr.cell? ⟨b, o + k * 3 + 2, none⟩ = some (.int .u32 c.u) := by rw [Nat.add_assoc]; exact hcell _ _ x3
      have hok := HWF.out c (List.mem_of_getElem? hc)
      have ha := u32_bd hok.2.1
      have hu := u32_bd hok.2.2
      obtain ⟨kk, a, u⟩ := c
      simp only at d1 d2 d3 ha hu
      have HL1 := Lib.hid hl1; have HK6 := Lib.hid hk6; have HA := Lib.hid ha; have HU := Lib.hid hu
      have hki : decide ((k : Int) < 60) = true := by simp; omega
      have hl1i : (k : Int) < (l.length : Int) := by omega
      clear hcell x1 x2 x3 hc hok hk hk6 hl1 hl2 ha hu
      have HL2 := Lib.hid hlt2
      clear hlt2
      have HI1 := Lib.hid (HH.out.ext (Ext.alloc wr (.cells #[.int .i64 kk, .int .u32 a, .int .u32 u] 33)))
      have HBX := Lib.hid (HH.out.far (Nat.le_refl _))
      have HBL := Lib.hid (show wr.heap.size < (wr.alloc (.cells #[.int .i64 kk, .int .u32 a, .int .u32 u] 33)).heap.size from by rw [World.size_alloc]; omega)
      have q1 : (wr.alloc (.cells #[.int .i64 kk, .int .u32 a, .int .u32 u] 33)).cell? ⟨wr.heap.size, 1, none⟩ = some (.int .u32 a) := World.cell?_alloc_at _ _ _ _ rfl
      have q2 : (wr.alloc (.cells #[.int .i64 kk, .int .u32 a, .int .u32 u] 33)).cell? ⟨wr.heap.size, 2, none⟩ = some (.int .u32 u) := World.cell?_alloc_at _ _ _ _ rfl
      have HQ1 := Lib.hid q1; have HQ2 := Lib.hid q2
      clear q1 q2
      obtain ⟨kx, hkx, hkx12⟩ : ∃ kx : Nat, a % 12 = kx ∧ kx < 12 := ⟨(a % 12).toNat, by have := HA.out; omega, by have := HA.out; omega⟩
      have hkxi : (kx : Int) < 12 := by omega
      have ha0 := HA.out.1
      have HK12 := Lib.hid hkx12
      clear hkx12
      go_wp2_with fail
      · refine (Mm.load _ h s _ a HI1.out.p).mono ?_
        rintro e w4 ⟨rfl, hp4, hu4⟩
        have HP4 := Lib.hid hp4; have HU4 := Lib.hid hu4
        have z1 : w4.cell? ⟨wr.heap.size, 1, none⟩ = some (.int .u32 a) := (hu4.cell (p := ⟨wr.heap.size, 1, none⟩) HBL.out HBX.out.1).trans HQ1.out
        have HR4 := Lib.hid (HI1.out.r.upd hu4 HI1.out.pr)
        clear hp4 hu4
        go_wp2_with fail
        refine (MmR.load _ h' s _ a HA.out.1 HA.out.2 HR4.out).mono ?_
        rintro e wF ⟨rfl, hr5, hu5⟩
        have HIF := Lib.hid (IV.both HI1.out HP4.out HU4.out hr5 hu5 (by rw [(loadS_len s a).2.1]; exact HI1.out.len))
        clear hr5 hu5 HP4 HU4 HR4 z1
        generalize (lookV s a).1 = zz1
        generalize (lookV s a).2 = zz2
        generalize loadS s a = s5 at HIF
        go_wp2_with fail
        have HIT := Lib.hid (IV.drew HIF.out)
        have t1 : wF.drew.cell? ⟨h'.r, 1, none⟩ = some (.slice h'.AW s5.W.length h'.cW) := HIT.out.r.blk.cell 1
        have t3 : wF.drew.cell? ⟨h'.r, 3, none⟩ = some (.int .i64 s5.d) := HIT.out.r.blk.cell 3
        have t4 : wF.drew.cell? ⟨h'.r, 4, none⟩ = some (.int .u32 s5.b) := HIT.out.r.blk.cell 4
        have HWL := Lib.hid (show s5.W.length ≤ 100000 from by rw [HIF.out.len]; decide)
        go_region_held3 (fun w' => w'.cell? ⟨h'.r, 1, none⟩ = some (.slice h'.AW s5.W.length h'.cW) ∧ w'.cell? ⟨h'.r, 3, none⟩ = some (.int .i64 s5.d) ∧ w'.cell? ⟨h'.r, 4, none⟩ = some (.int .u32 s5.b)) (first | exact ⟨t1, t3, t4⟩ | exact ⟨v1, v3, v4⟩ | exact ⟨y1, y3, y4⟩) (first | (go_at_call 20; refine (MmR.same _ _ _ _ s5.W _ (lies_own HO5.out) (lies_own HI5.out.r.ow) HWL.out).mono ?_; rintro e w6 ⟨rfl, hb6⟩; have HI6 := Lib.hid (IV.ext HI5.out hb6); have y1 := HI6.out.r.blk.cell 1; have y3 := HI6.out.r.blk.cell 3; have y4 := HI6.out.r.blk.cell 4; clear hb6) | (go_at_call 21; refine (Mm.words _ h _ _ HIT.out.p).mono ?_; rintro e w5 ⟨A5, c5, rfl, ho5, hx5⟩; have HI5 := Lib.hid (IV.ext HIT.out hx5); have HO5 := Lib.hid ho5; have v1 := HI5.out.r.blk.cell 1; have v3 := HI5.out.r.blk.cell 3; have v4 := HI5.out.r.blk.cell 4; clear ho5 hx5) | (go_at_call 18; refine (Mm.bus _ h _ _ HIT.out.p).mono ?_; rintro e w' ⟨rfl, rfl⟩) | (go_at_call 19; refine (Mm.drawn _ h _ _ HIT.out.p).mono ?_; rintro e w' ⟨rfl, rfl⟩))
        all_goals
          go_wp2_with fail
          go_roundw
          case rel => exact ⟨k + 1, s5, by have := HL1.out; omega, by have := HL2.out; omega, by go_num, HI6⟩
          case measure => have := HL2.out; simp [intOf]; omega
      · have HID := Lib.hid HI1.out.drew
        have z1 : (wr.alloc (.cells #[.int .i64 kk, .int .u32 a, .int .u32 u] 33)).drew.cell? ⟨wr.heap.size, 1, none⟩ = some (.int .u32 a) := HQ1.out
        have z2 : (wr.alloc (.cells #[.int .i64 kk, .int .u32 a, .int .u32 u] 33)).drew.cell? ⟨wr.heap.size, 2, none⟩ = some (.int .u32 u) := HQ2.out
        have HBD := Lib.hid (show wr.heap.size < (wr.alloc (.cells #[.int .i64 kk, .int .u32 a, .int .u32 u] 33)).drew.heap.size from HBL.out)
        go_region_held3 (fun w' => w'.cell? ⟨wr.heap.size, 1, none⟩ = some (.int .u32 a) ∧ w'.cell? ⟨wr.heap.size, 2, none⟩ = some (.int .u32 u)) (first | exact ⟨zf1, zf2⟩ | exact ⟨zp1, zp2⟩ | exact ⟨zr1, zr2⟩ | exact ⟨z1, z2⟩) (first | (go_at_call 14; refine (MmR.store _ h' s _ a u HA.out.1 HA.out.2 HU.out HRP.out).mono ?_; rintro e wF ⟨rfl, hrF, huF⟩; have HIF := Lib.hid (IV.both HID.out HPP.out HUP.out hrF huF (by rw [(storeS_len s a u).2.1]; exact HID.out.len)); have zf1 := (huF.cell (p := ⟨wr.heap.size, 1, none⟩) (Nat.lt_of_lt_of_le HBD.out HUP.out.size) HBX.out.2).trans zp1; have zf2 := (huF.cell (p := ⟨wr.heap.size, 2, none⟩) (Nat.lt_of_lt_of_le HBD.out HUP.out.size) HBX.out.2).trans zp2; clear hrF huF) | (go_at_call 13; refine (Mm.store _ h s _ a u HU.out HPR.out).mono ?_; rintro e wF ⟨rfl, hpF, huF⟩; have HIF := Lib.hid (IV.both' HID.out HRR.out HUR.out hpF huF (by rw [(storeS_len s a u).2.1]; exact HID.out.len)); have zf1 := (huF.cell (p := ⟨wr.heap.size, 1, none⟩) (Nat.lt_of_lt_of_le HBD.out HUR.out.size) HBX.out.1).trans zr1; have zf2 := (huF.cell (p := ⟨wr.heap.size, 2, none⟩) (Nat.lt_of_lt_of_le HBD.out HUR.out.size) HBX.out.1).trans zr2; clear hpF huF) | (go_at_call 13; refine (Mm.store _ h s _ a u HU.out HID.out.p).mono ?_; rintro e wP ⟨rfl, hpP, huP⟩; have HPP := Lib.hid hpP; have HUP := Lib.hid huP; have HRP := Lib.hid (HID.out.r.upd huP HID.out.pr); have zp1 := (huP.cell (p := ⟨wr.heap.size, 1, none⟩) HBD.out HBX.out.1).trans z1; have zp2 := (huP.cell (p := ⟨wr.heap.size, 2, none⟩) HBD.out HBX.out.1).trans z2; clear hpP huP) | (go_at_call 14; refine (MmR.store _ h' s _ a u HA.out.1 HA.out.2 HU.out HID.out.r).mono ?_; rintro e wR ⟨rfl, hrR, huR⟩; have HRR := Lib.hid hrR; have HUR := Lib.hid huR; have HPR := Lib.hid (HID.out.p.upd huR HID.out.rp); have zr1 := (huR.cell (p := ⟨wr.heap.size, 1, none⟩) HBD.out HBX.out.2).trans z1; have zr2 := (huR.cell (p := ⟨wr.heap.size, 2, none⟩) HBD.out HBX.out.2).trans z2; clear hrR huR))
        all_goals
          generalize storeE s a = zz1
          generalize storeS s a u = s5 at HIF
          go_wp2_with fail
          have HIT := Lib.hid (IV.drew HIF.out)
          have t1 : wF.drew.cell? ⟨h'.r, 1, none⟩ = some (.slice h'.AW s5.W.length h'.cW) := HIT.out.r.blk.cell 1
          have t3 : wF.drew.cell? ⟨h'.r, 3, none⟩ = some (.int .i64 s5.d) := HIT.out.r.blk.cell 3
          have t4 : wF.drew.cell? ⟨h'.r, 4, none⟩ = some (.int .u32 s5.b) := HIT.out.r.blk.cell 4
          have HWL := Lib.hid (show s5.W.length ≤ 100000 from by rw [HIF.out.len]; decide)
          go_region_held3 (fun w' => w'.cell? ⟨h'.r, 1, none⟩ = some (.slice h'.AW s5.W.length h'.cW) ∧ w'.cell? ⟨h'.r, 3, none⟩ = some (.int .i64 s5.d) ∧ w'.cell? ⟨h'.r, 4, none⟩ = some (.int .u32 s5.b)) (first | exact ⟨t1, t3, t4⟩ | exact ⟨v1, v3, v4⟩ | exact ⟨y1, y3, y4⟩) (first | (go_at_call 20; refine (MmR.same _ _ _ _ s5.W _ (lies_own HO5.out) (lies_own HI5.out.r.ow) HWL.out).mono ?_; rintro e w6 ⟨rfl, hb6⟩; have HI6 := Lib.hid (IV.ext HI5.out hb6); have y1 := HI6.out.r.blk.cell 1; have y3 := HI6.out.r.blk.cell 3; have y4 := HI6.out.r.blk.cell 4; clear hb6) | (go_at_call 21; refine (Mm.words _ h _ _ HIT.out.p).mono ?_; rintro e w5 ⟨A5, c5, rfl, ho5, hx5⟩; have HI5 := Lib.hid (IV.ext HIT.out hx5); have HO5 := Lib.hid ho5; have v1 := HI5.out.r.blk.cell 1; have v3 := HI5.out.r.blk.cell 3; have v4 := HI5.out.r.blk.cell 4; clear ho5 hx5) | (go_at_call 18; refine (Mm.bus _ h _ _ HIT.out.p).mono ?_; rintro e w' ⟨rfl, rfl⟩) | (go_at_call 19; refine (Mm.drawn _ h _ _ HIT.out.p).mono ?_; rintro e w' ⟨rfl, rfl⟩))
          all_goals
            go_wp2_with fail
            go_roundw
            case rel => exact ⟨k + 1, s5, by have := HL1.out; omega, by have := HL2.out; omega, by go_num, HI6⟩
            case measure => have := HL2.out; simp [intOf]; omega
      · refine (Mm.fetch _ h s _ a HI1.out.p).mono ?_
        rintro e w4 ⟨rfl, n4, rfl⟩
        have HI4 := Lib.hid (HI1.out.drewN n4)
        have z1 : ((wr.alloc (.cells #[.int .i64 kk, .int .u32 a, .int .u32 u] 33)).drewN n4).cell? ⟨wr.heap.size, 1, none⟩ = some (.int .u32 a) := HQ1.out
        generalize (wr.alloc (.cells #[.int .i64 kk, .int .u32 a, .int .u32 u] 33)).drewN n4 = w4 at *
        go_wp2_with fail
        refine (MmR.fetch _ h' s _ a HA.out.1 HA.out.2 HI4.out.r).mono ?_
        rintro e w5 ⟨rfl, n5, rfl⟩
        have HIF := Lib.hid (HI4.out.drewN n5)
        clear z1 HI4
        generalize w4.drewN n5 = wF at *
        generalize (fetchV s a).1 = zz1
        generalize (fetchV s a).2 = zz2
        go_wp2_with fail
        have HIT := Lib.hid (IV.drew HIF.out)
        have t1 : wF.drew.cell? ⟨h'.r, 1, none⟩ = some (.slice h'.AW s.W.length h'.cW) := HIT.out.r.blk.cell 1
        have t3 : wF.drew.cell? ⟨h'.r, 3, none⟩ = some (.int .i64 s.d) := HIT.out.r.blk.cell 3
        have t4 : wF.drew.cell? ⟨h'.r, 4, none⟩ = some (.int .u32 s.b) := HIT.out.r.blk.cell 4
        have HWL := Lib.hid (show s.W.length ≤ 100000 from by rw [HIF.out.len]; decide)
        go_region_held3 (fun w' => w'.cell? ⟨h'.r, 1, none⟩ = some (.slice h'.AW s.W.length h'.cW) ∧ w'.cell? ⟨h'.r, 3, none⟩ = some (.int .i64 s.d) ∧ w'.cell? ⟨h'.r, 4, none⟩ = some (.int .u32 s.b)) (first | exact ⟨t1, t3, t4⟩ | exact ⟨v1, v3, v4⟩ | exact ⟨y1, y3, y4⟩) (first | (go_at_call 20; refine (MmR.same _ _ _ _ s.W _ (lies_own HO5.out) (lies_own HI5.out.r.ow) HWL.out).mono ?_; rintro e w6 ⟨rfl, hb6⟩; have HI6 := Lib.hid (IV.ext HI5.out hb6); have y1 := HI6.out.r.blk.cell 1; have y3 := HI6.out.r.blk.cell 3; have y4 := HI6.out.r.blk.cell 4; clear hb6) | (go_at_call 21; refine (Mm.words _ h _ _ HIT.out.p).mono ?_; rintro e w5 ⟨A5, c5, rfl, ho5, hx5⟩; have HI5 := Lib.hid (IV.ext HIT.out hx5); have HO5 := Lib.hid ho5; have v1 := HI5.out.r.blk.cell 1; have v3 := HI5.out.r.blk.cell 3; have v4 := HI5.out.r.blk.cell 4; clear ho5 hx5) | (go_at_call 18; refine (Mm.bus _ h _ _ HIT.out.p).mono ?_; rintro e w' ⟨rfl, rfl⟩) | (go_at_call 19; refine (Mm.drawn _ h _ _ HIT.out.p).mono ?_; rintro e w' ⟨rfl, rfl⟩))
        all_goals
          go_wp2_with fail
          go_roundw
          case rel => exact ⟨k + 1, s, by have := HL1.out; omega, by have := HL2.out; omega, by go_num, HI6⟩
          case measure => have := HL2.out; simp [intOf]; omega
      · by_cases h9 : kx < 9
        · have hdec : decide ((0 : Int) ≤ (kx : Int) ∧ (kx : Int) < (s.W.length : Int)) = true := decide_eq_true ⟨by omega, by rw [HI1.out.len]; omega⟩
          have hset : setS s (kx : Int) u = { s with W := s.W.set kx u } := by unfold setS; rw [if_pos ⟨by omega, by rw [HI1.out.len]; omega⟩]; rfl
          have HD := Lib.hid hdec; have HST := Lib.hid hset
          have h9i : (kx : Int) < 9 := by omega
          have H9 := Lib.hid h9
          clear hdec hset h9
          refine (Mm.set _ h s _ _ u HU.out HI1.out.p).mono ?_
          rintro e w4 ⟨rfl, hp4, hu4⟩
          rw [HD.out]
          rw [HST.out] at hp4
          have HP4 := Lib.hid hp4; have HU4 := Lib.hid hu4
          have HR4 := Lib.hid (HI1.out.r.upd hu4 HI1.out.pr)
          obtain ⟨g, hg, hc, hfz⟩ := HR4.out.cellW (i := kx) (by rw [HI1.out.len]; exact H9.out)
          have e1 : w4.cell? ⟨h'.r, 1, none⟩ = some (.slice (some ⟨g, 0, none⟩) s.W.length h'.cW) := by rw [← hg]; exact HR4.out.blk.cell 1
          have z2 : w4.cell? ⟨wr.heap.size, 2, none⟩ = some (.int .u32 u) := (hu4.cell (p := ⟨wr.heap.size, 2, none⟩) HBL.out HBX.out.1).trans HQ2.out
          have hkw : (kx : Int) < (s.W.length : Int) := by rw [HI1.out.len]; exact h9i
          have HG := Lib.hid hg
          clear hp4 hu4 hg
          go_wp2_with fail
          go_still_tail 8, (by kernel_rfl)
          change wpList _ _ _ _ _ w4.drew
          have hwd := HR4.out.drew.word HG.out kx u HU.out
          have HIF := Lib.hid (IV.both (s' := { s with W := s.W.set kx u }) HI1.out HP4.out HU4.out hwd.1 (((Upd.refl h'.X w4).drew).trans hwd.2) (by show (s.W.set kx u).length = 9; rw [List.length_set]; exact HI1.out.len))
          have k1 : w4.drew.cell? ⟨g, kx, none⟩ = some (.int .u32 (s.W.getD kx 0)) := hc
          have k2 : w4.drew.frozen? ⟨g, kx, none⟩ = false := hfz
          clear hwd hc hfz e1 z2 HP4 HU4 HR4
          generalize w4.drew = w5 at *
          generalize (St.mk s.C (s.W.set kx u) s.T s.d s.b) = s5 at HIF
          go_wp2_with fail
          generalize w5.setCell ⟨g, kx, none⟩ (.int .u32 u) = wF at *
          have HIT := Lib.hid (IV.drew HIF.out)
          have t1 : wF.drew.cell? ⟨h'.r, 1, none⟩ = some (.slice h'.AW s5.W.length h'.cW) := HIT.out.r.blk.cell 1
          have t3 : wF.drew.cell? ⟨h'.r, 3, none⟩ = some (.int .i64 s5.d) := HIT.out.r.blk.cell 3
          have t4 : wF.drew.cell? ⟨h'.r, 4, none⟩ = some (.int .u32 s5.b) := HIT.out.r.blk.cell 4
          have HWL := Lib.hid (show s5.W.length ≤ 100000 from by rw [HIF.out.len]; decide)
          go_region_held3 (fun w' => w'.cell? ⟨h'.r, 1, none⟩ = some (.slice h'.AW s5.W.length h'.cW) ∧ w'.cell? ⟨h'.r, 3, none⟩ = some (.int .i64 s5.d) ∧ w'.cell? ⟨h'.r, 4, none⟩ = some (.int .u32 s5.b)) (first | exact ⟨t1, t3, t4⟩ | exact ⟨v1, v3, v4⟩ | exact ⟨y1, y3, y4⟩) (first | (go_at_call 20; refine (MmR.same _ _ _ _ s5.W _ (lies_own HO5.out) (lies_own HI5.out.r.ow) HWL.out).mono ?_; rintro e w6 ⟨rfl, hb6⟩; have HI6 := Lib.hid (IV.ext HI5.out hb6); have y1 := HI6.out.r.blk.cell 1; have y3 := HI6.out.r.blk.cell 3; have y4 := HI6.out.r.blk.cell 4; clear hb6) | (go_at_call 21; refine (Mm.words _ h _ _ HIT.out.p).mono ?_; rintro e w5 ⟨A5, c5, rfl, ho5, hx5⟩; have HI5 := Lib.hid (IV.ext HIT.out hx5); have HO5 := Lib.hid ho5; have v1 := HI5.out.r.blk.cell 1; have v3 := HI5.out.r.blk.cell 3; have v4 := HI5.out.r.blk.cell 4; clear ho5 hx5) | (go_at_call 18; refine (Mm.bus _ h _ _ HIT.out.p).mono ?_; rintro e w' ⟨rfl, rfl⟩) | (go_at_call 19; refine (Mm.drawn _ h _ _ HIT.out.p).mono ?_; rintro e w' ⟨rfl, rfl⟩))
          all_goals
            go_wp2_with fail
            go_roundw
            case rel => exact ⟨k + 1, s5, by have := HL1.out; omega, by have := HL2.out; omega, by go_num, HI6⟩
            case measure => have := HL2.out; simp [intOf]; omega
        · have hdec : decide ((0 : Int) ≤ (kx : Int) ∧ (kx : Int) < (s.W.length : Int)) = false := decide_eq_false fun hh => h9 (by have := hh.2; rw [HI1.out.len] at this; omega)
          have hset : setS s (kx : Int) u = s := by unfold setS; rw [if_neg fun hh => h9 (by have := hh.2; rw [HI1.out.len] at this; omega)]
          have HD := Lib.hid hdec; have HST := Lib.hid hset
          have h9i : decide ((kx : Int) < 9) = false := by simp; omega
          clear hdec hset h9
          refine (Mm.set _ h s _ _ u HU.out HI1.out.p).mono ?_
          rintro e wF ⟨rfl, hp4, hu4⟩
          rw [HD.out]
          rw [HST.out] at hp4
          have HIF := Lib.hid (IV.both HI1.out hp4 hu4 (HI1.out.r.upd hu4 HI1.out.pr) (Upd.refl _ _) HI1.out.len)
          clear hp4 hu4
          go_wp2_with fail
          have HIT := Lib.hid (IV.drew HIF.out)
          have t1 : wF.drew.cell? ⟨h'.r, 1, none⟩ = some (.slice h'.AW s.W.length h'.cW) := HIT.out.r.blk.cell 1
          have t3 : wF.drew.cell? ⟨h'.r, 3, none⟩ = some (.int .i64 s.d) := HIT.out.r.blk.cell 3
          have t4 : wF.drew.cell? ⟨h'.r, 4, none⟩ = some (.int .u32 s.b) := HIT.out.r.blk.cell 4
          have HWL := Lib.hid (show s.W.length ≤ 100000 from by rw [HIF.out.len]; decide)
          go_region_held3 (fun w' => w'.cell? ⟨h'.r, 1, none⟩ = some (.slice h'.AW s.W.length h'.cW) ∧ w'.cell? ⟨h'.r, 3, none⟩ = some (.int .i64 s.d) ∧ w'.cell? ⟨h'.r, 4, none⟩ = some (.int .u32 s.b)) (first | exact ⟨t1, t3, t4⟩ | exact ⟨v1, v3, v4⟩ | exact ⟨y1, y3, y4⟩) (first | (go_at_call 20; refine (MmR.same _ _ _ _ s.W _ (lies_own HO5.out) (lies_own HI5.out.r.ow) HWL.out).mono ?_; rintro e w6 ⟨rfl, hb6⟩; have HI6 := Lib.hid (IV.ext HI5.out hb6); have y1 := HI6.out.r.blk.cell 1; have y3 := HI6.out.r.blk.cell 3; have y4 := HI6.out.r.blk.cell 4; clear hb6) | (go_at_call 21; refine (Mm.words _ h _ _ HIT.out.p).mono ?_; rintro e w5 ⟨A5, c5, rfl, ho5, hx5⟩; have HI5 := Lib.hid (IV.ext HIT.out hx5); have HO5 := Lib.hid ho5; have v1 := HI5.out.r.blk.cell 1; have v3 := HI5.out.r.blk.cell 3; have v4 := HI5.out.r.blk.cell 4; clear ho5 hx5) | (go_at_call 18; refine (Mm.bus _ h _ _ HIT.out.p).mono ?_; rintro e w' ⟨rfl, rfl⟩) | (go_at_call 19; refine (Mm.drawn _ h _ _ HIT.out.p).mono ?_; rintro e w' ⟨rfl, rfl⟩))
          all_goals
            go_wp2_with fail
            go_roundw
            case rel => exact ⟨k + 1, s, by have := HL1.out; omega, by have := HL2.out; omega, by go_num, HI6⟩
            case measure => have := HL2.out; simp [intOf]; omega
      · generalize wr.alloc (.cells #[.int .i64 kk, .int .u32 a, .int .u32 u] 33) = wF at *
        have HIF := HI1
        clear HI1
        have HIT := Lib.hid (IV.drew HIF.out)
        have t1 : wF.drew.cell? ⟨h'.r, 1, none⟩ = some (.slice h'.AW s.W.length h'.cW) := HIT.out.r.blk.cell 1
        have t3 : wF.drew.cell? ⟨h'.r, 3, none⟩ = some (.int .i64 s.d) := HIT.out.r.blk.cell 3
        have t4 : wF.drew.cell? ⟨h'.r, 4, none⟩ = some (.int .u32 s.b) := HIT.out.r.blk.cell 4
        have HWL := Lib.hid (show s.W.length ≤ 100000 from by rw [HIF.out.len]; decide)
        go_region_held3 (fun w' => w'.cell? ⟨h'.r, 1, none⟩ = some (.slice h'.AW s.W.length h'.cW) ∧ w'.cell? ⟨h'.r, 3, none⟩ = some (.int .i64 s.d) ∧ w'.cell? ⟨h'.r, 4, none⟩ = some (.int .u32 s.b)) (first | exact ⟨t1, t3, t4⟩ | exact ⟨v1, v3, v4⟩ | exact ⟨y1, y3, y4⟩) (first | (go_at_call 20; refine (MmR.same _ _ _ _ s.W _ (lies_own HO5.out) (lies_own HI5.out.r.ow) HWL.out).mono ?_; rintro e w6 ⟨rfl, hb6⟩; have HI6 := Lib.hid (IV.ext HI5.out hb6); have y1 := HI6.out.r.blk.cell 1; have y3 := HI6.out.r.blk.cell 3; have y4 := HI6.out.r.blk.cell 4; clear hb6) | (go_at_call 21; refine (Mm.words _ h _ _ HIT.out.p).mono ?_; rintro e w5 ⟨A5, c5, rfl, ho5, hx5⟩; have HI5 := Lib.hid (IV.ext HIT.out hx5); have HO5 := Lib.hid ho5; have v1 := HI5.out.r.blk.cell 1; have v3 := HI5.out.r.blk.cell 3; have v4 := HI5.out.r.blk.cell 4; clear ho5 hx5) | (go_at_call 18; refine (Mm.bus _ h _ _ HIT.out.p).mono ?_; rintro e w' ⟨rfl, rfl⟩) | (go_at_call 19; refine (Mm.drawn _ h _ _ HIT.out.p).mono ?_; rintro e w' ⟨rfl, rfl⟩))
        all_goals
          go_wp2_with fail
          go_roundw
          case rel => exact ⟨k + 1, s, by have := HL1.out; omega, by have := HL2.out; omega, by go_num, HI6⟩
          case measure => have := HL2.out; simp [intOf]; omega
    · have hex : (k : Int) < (l.length : Int) ∧ decide ((k : Int) < 60) = false ∨ decide (k < l.length) = false := by
        by_cases h1 : k < l.length
        · left; exact ⟨by omega, by simp; omega⟩
        · right; simpa using h1
      clear hlt hk hk6
      rcases hex with ⟨hx1, hx2⟩ | hx1
      all_goals
        go_wp2_with fail
        refine (Mm.lives _).mono ?_
        rintro e w9 ⟨rfl, hb9⟩
        have HB9 := Lib.hid (HH.out.lo.trans (hb9.mono HH.out.lo.size))
        clear hb9
        go_wp2_with fail
        go_ret
        exact ⟨rfl, HB9.out⟩
end Go.Proofs.Ytldfnjjgacieoaa.memActs
