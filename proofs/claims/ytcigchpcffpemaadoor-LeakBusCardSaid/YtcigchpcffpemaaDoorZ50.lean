/- DERIVED. LkBw in one text. By an AI agent. -/
import Derived.Test.YtcigchpcffpemaaDoorZX
import Derived.Test.YtcigchpcffpemaaDoorZ49
import Derived.Test.YtcigchpcffpemaaDoorZ24
import Derived.Test.YtcigchpcffpemaaDoorZ14
import Derived.Deep.RegionLawGrows
import Derived.BigRegion
/- DERIVED. The walk of LeakBus. By an AI agent. -/
namespace Go.Proofs.YtcigchpcffpemaaDoor.Lk
open Go.ChangeShapes Go.WideShapes Go.ChangeAt Go.RowKit WMath Word Args Mm Co
set_option linter.unusedVariables false
set_option linter.unusedSimpArgs false
def cws (zs : List Int) (k : Nat) : List Int := (zs.take k).map cw
theorem cws_len (zs : List Int) (k : Nat) (h : k ≤ zs.length) : (cws zs k).length = k := by unfold cws; rw [List.length_map, List.length_take]; omega
theorem cws_succ (zs : List Int) (k : Nat) (h : k < zs.length) : cws zs (k + 1) = cws zs k ++ [cw (zs.getD k 0)] := by
  unfold cws
  rw [List.take_succ_eq_append_getElem h, List.map_append]
  simp [List.getD, List.getElem?_eq_getElem h]
theorem cws_get (zs : List Int) (n k : Nat) (hk : k < n) (h : n ≤ zs.length) : (cws zs n).getD k 0 = cw (zs.getD k 0) := by
  unfold cws
  rw [List.getD_eq_getElem?_getD, List.getElem?_map, List.getElem?_take, if_pos hk, List.getElem?_eq_getElem (by omega)]
  simp [List.getD, List.getElem?_eq_getElem (show k < zs.length by omega)]
theorem cws_in (zs : List Int) (hz : ∀ z ∈ zs, 0 ≤ z) (n : Nat) : ∀ c ∈ cws zs n, 0 ≤ c ∧ c < 65536 := fun c hc => by
  unfold cws at hc
  obtain ⟨z, hm, rfl⟩ := List.mem_map.1 hc
  exact cw_in z (hz z (List.mem_of_mem_take hm))
/-- What the first loop has made. -/
structure B1 (W : World) (zs : List Int) (k : Nat) (A : Option Addr) (c : Nat) (wr : World) : Prop where
  own : wr.ownsRow W.heap.size 29 1 (.slice A k c) k ((cws zs k).map (.int .u16))
  low : Below W.heap.size W wr
  kc : k ≤ c
  cm : c ≤ maxLen
/-- The state that the second loop begins with. -/
def sB : S := (zS.up 0 5#32).up 1 536870912#32
/-- What the second loop keeps. -/
structure B2 (W : World) (zs : List Int) (N n1 : Nat) (h : Hd) (gs k : Nat) (s : S) (m : St) (wr : World) : Prop where
  p : PP n1 h m wr
  b : Blk wr gs 27 (sC s)
  low : Below W.heap.size W wr
  pc : s.pc = BitVec.ofNat 32 (2 * k)
  r1 : s.r 1 = 536870912#32
  c : m.C = cws zs N
  w : m.W.length = 4
set_option maxRecDepth 100000 in
set_option maxHeartbeats 8000000 in
theorem bus (W : World) (AL : Option Addr) (cL : Nat) (zs : List Int) (hz : ∀ z ∈ zs, 0 ≤ z ∧ z < 4294967296) (hL : Lies W AL (zs.map (.int .u32))) (hlm : zs.length ≤ 140737488351232) (hT : Tp.Tb W) (N : Nat) (hN : N ≤ zs.length ∧ N ≤ 20 ∧ (N = zs.length ∨ N = 20)) :
    Calls Tryd.prog 6 #[.slice AL zs.length cL] W fun e w' => e = .returned (.bool true) ∧ Below W.heap.size W w' := by
  obtain ⟨i0, hi, hz0, hz1, hz2⟩ := info_parts info16
  have HI := Lib.hid hi; have HZ0 := Lib.hid hz0; have HZ1 := Lib.hid hz1; have HZ2 := Lib.hid hz2
  have HL := Lib.hid hL; have HT := Lib.hid hT; have HN := Lib.hid hN; have HZ := Lib.hid hz
  have hlm2 : (zs.length : Int) < 9223372036854775807 := by omega
  have h1 : B1 W zs 0 (some ⟨W.heap.size, 0, none⟩) 0 (W.alloc (.cells #[] 29)) := ⟨own_empty W (Nat.le_refl _) _ _, (Below.refl _ _).alloc (Nat.le_refl _) _, Nat.le_refl _, Nat.zero_le _⟩
  have H1 := Lib.hid h1
  clear hi hz0 hz1 hz2 hL hT hN hz h1
  go_enter Tryd.func6, Tryd.ntmps6
  go_wp2_with fail
  go_loopw [3, 4] (fun v vk wr => ∃ k : Nat, k ≤ N ∧ vk = .int .i64 k ∧ ∃ A c, v = .slice A k c ∧ Hid (B1 W zs k A c wr)) (fun _ vk _ => N - (intOf vk).toNat)
  case atStart => exact ⟨0, Nat.zero_le _, rfl, _, _, rfl, H1⟩
  case round =>
    obtain ⟨k, hk, rfl, A, c, rfl, HB⟩ := hrel
    clear H1
    by_cases hlt : k < N
    · have hkl : k < zs.length := by have := HN.out.1; omega
      have hcell : (zs.map (Value.int .u32))[k]? = some (.int .u32 (zs.getD k 0)) := by simp [List.getElem?_eq_getElem hkl, List.getD]
      obtain ⟨b, o, rfl, hbw, hcc⟩ := HL.out.at_ hcell
      have e0 := hcc _ _ hcell
      have e1 : wr.cell? ⟨b, o + k, none⟩ = some (.int .u32 (zs.getD k 0)) := (HB.out.low.cell (p := ⟨b, o + k, none⟩) hbw).trans e0
      have hzk := HZ.out (zs.getD k 0) (by rw [List.getD_eq_getElem?_getD, List.getElem?_eq_getElem hkl]; exact List.getElem_mem hkl)
      have hsc := cws_succ zs k hkl
      generalize zs.getD k 0 = z at *
      have hz0 : 0 ≤ z := hzk.1
      have hz1 : z < 4294967296 := hzk.2
      have hk20 : (k : Int) < 20 := by have := HN.out.2.1; omega
      have hkl2 : (k : Int) < (zs.length : Int) := by omega
      have hk0 : (0 : Int) ≤ (k : Int) := by omega
      have HSC := Lib.hid hsc; have HLT := Lib.hid hlt
      clear hcell hcc e0 hzk hsc hlt hkl hbw
      obtain ⟨p, hp⟩ : ∃ p, z % 2 = p := ⟨_, rfl⟩
      obtain ⟨d, hd⟩ : ∃ d, z / 2 = d := ⟨_, rfl⟩
      obtain ⟨q, hq⟩ : ∃ q, d % 4 = q := ⟨_, rfl⟩
      obtain ⟨cz, hcz⟩ : ∃ cz, cw z = cz := ⟨_, rfl⟩
      have hce : cz = 24576 + 2048 * p + 64 * q + 8 := by rw [← hcz, ← hq, ← hd, ← hp]; rfl
      have hp0 : 0 ≤ p ∧ p < 2 := by omega
      have hq0 : 0 ≤ q ∧ q < 4 := by omega
      have hd0 : 0 ≤ d ∧ d < 4294967296 := by omega
      have t1 : z.tmod 2 = p := by rw [Int.tmod_eq_emod_of_nonneg hz0]; exact hp
      have t2 : z.tdiv 2 = d := by rw [Int.tdiv_eq_ediv_of_nonneg hz0]; exact hd
      have t3 : d.tmod 4 = q := by rw [Int.tmod_eq_emod_of_nonneg hd0.1]; exact hq
      have x1 : IntKind.u32.wrap p = p := by rw [IntKind.wrap_u32]; omega
      have x2 : IntKind.u32.wrap d = d := by rw [IntKind.wrap_u32]; omega
      have x3 : IntKind.u32.wrap q = q := by rw [IntKind.wrap_u32]; omega
      have w1 : IntKind.u32.wrap (2048 * p) = 2048 * p := by rw [IntKind.wrap_u32]; omega
      have w2 : IntKind.u32.wrap (24576 + 2048 * p) = 24576 + 2048 * p := by rw [IntKind.wrap_u32]; omega
      have w3 : IntKind.u32.wrap (64 * q) = 64 * q := by rw [IntKind.wrap_u32]; omega
      have w4 : IntKind.u32.wrap (24576 + 2048 * p + 64 * q) = 24576 + 2048 * p + 64 * q := by rw [IntKind.wrap_u32]; omega
      have w5 : IntKind.u32.wrap (24576 + 2048 * p + 64 * q + 8) = 24576 + 2048 * p + 64 * q + 8 := by rw [IntKind.wrap_u32]; omega
      have w6 : IntKind.u16.wrap (24576 + 2048 * p + 64 * q + 8) = cz := by rw [hce, IntKind.wrap_u16]; omega
      rw [hcz] at HSC
      clear hce hcz hp0 hq0 hd0
      go_upto_region 5 with fail
      have HLN := Lib.hid (show Lies (wr.alloc (.cells #[.int .u16 cz] 29)).drew (some ⟨wr.heap.size, 0, none⟩) [.int .u16 cz] from fun j u hj => ⟨_, rfl, by rw [Args.add_plain, Nat.zero_add]; exact (show (wr.alloc (.cells #[.int .u16 cz] 29)).cell? ⟨wr.heap.size, j, none⟩ = _ from World.cell?_alloc_at _ _ _ _ rfl).trans (by simpa using hj)⟩)
      have HM1 := Lib.hid (show k + 1 ≤ maxLen from by unfold maxLen; omega)
      have HM2 := Lib.hid (show (k + 1) * 2 ≤ 140737488355328 from by omega)
      have HBS := Lib.hid (show W.heap.size ≤ (wr.alloc (.cells #[.int .u16 cz] 29)).drew.heap.size from by simp only [World.size_drew, World.size_alloc]; have := HB.out.low.size; omega)
      go_region_law (refine step_fresh rfl (.tmp 24) (.tmp 42) 38 rfl W.heap.size 29 i0 (.int .u16 0) 1 2 Tryd.underlying38 HI.out HZ0.out HZ1.out HZ2.out rfl (by decide) (.slice A k c) k ((cws zs k).map (.int .u16)) (by simp [Act.eval]) (World.ownsRow.drew (World.ownsRow.alloc HB.out.own (.cells #[.int .u16 cz] 29))) (some ⟨wr.heap.size, 0, none⟩) 1 1 [.int .u16 cz] (by simp [Act.eval]) rfl HLN.out (by simp [Value.oneCell']) HM1.out HM2.out HBS.out ?_; intro A' c' w' h1 h2 h3 h4; have HO' := Lib.hid h3; have HG' := Lib.hid h4; have HC1 := Lib.hid h1; have HC2 := Lib.hid h2; clear h1 h2 h3 h4)
      all_goals
        have hlow : Below W.heap.size W w' := ((HB.out.low.alloc HB.out.low.size _).drew).grown HG'.out (by simp only [World.size_drew, World.size_alloc]; have := HB.out.low.size; omega) (fun kk e => by
          rcases own_form HB.out.own with ⟨e1, _⟩ | ⟨g, e1, hge, _⟩
          · rw [e1] at e; simp [Value.ownBlock] at e
          · rw [e1] at e; simp [Value.ownBlock] at e; omega)
        have hown : w'.ownsRow W.heap.size 29 1 (.slice A' (k + 1) c') (k + 1) ((cws zs (k + 1)).map (.int .u16)) := by rw [HSC.out, List.map_append]; exact HO'.out
        have HNX := Lib.hid (show B1 W zs (k + 1) A' c' w' from ⟨hown, hlow, HC1.out, HC2.out⟩)
        clear hlow hown
        go_wp2_with fail
        go_roundw
        case rel => exact ⟨k + 1, by have := HLT.out; omega, by go_num, _, _, rfl, HNX⟩
        case measure => have := HLT.out; simp [intOf]; omega
    · obtain rfl : k = N := by omega
      have hcl : (cws zs k).length = k := cws_len zs k (by have := HN.out.1; omega)
      have hf : Fit ⟨cws zs k, noughts 4, [], 0, 0⟩ := ⟨cws_in zs (fun z hz => (HZ.out z hz).1) k, noughts_in 4, nofun, Nat.zero_le _, ⟨Int.le_refl _, show (0 : Int) < 4294967296 by decide⟩, by show (cws zs k).length ≤ 60000; have := HN.out.2.1; omega, show (noughts 4).length ≤ 16000 by decide, Nat.zero_le _⟩
      have hn := fun w1 h1 => new_c A c (cws zs k) 4 none 0 [] w1 h1 (Lies.nil _ _) (by rw [hcl]; exact HB.out.kc) HB.out.cm hf (by decide)
      rw [hcl] at hn
      have HNW := Lib.hid hn; have HCL := Lib.hid hcl
      have htest : (k < zs.length ∧ decide ((k : Int) < 20) = false) ∨ decide (k < zs.length) = false := by
        by_cases h : k < zs.length
        · have : k = 20 := by have := HN.out.2.2; omega
          exact .inl ⟨h, by simp; omega⟩
        · exact .inr (by simp; omega)
      clear hcl hf hn hlt hk
      rcases htest with ⟨t1, t2⟩ | t1
      all_goals
        go_upto_region 6 with fail
        clear t1
        go_wp2_with fail
        refine (HNW.out _ (lies_own HB.out.own)).mono ?_
        rintro e w1 ⟨h, rfl, hp1, hx1⟩
        have HP1 := Lib.hid (show PP wr.heap.size h ⟨cws zs k, noughts 4, [], 0, 0⟩ w1 from hp1)
        have HB1 := Lib.hid (show Below W.heap.size W w1 from HB.out.low.trans (Below.mono hx1 HB.out.low.size))
        have HQ := Lib.hid (show W.heap.size ≤ wr.heap.size from HB.out.low.size)
        clear hp1 hx1 HB HNW
        generalize wr.heap.size = n1 at *
        go_upto_region 10 with fail
        have hx : Below w1.heap.size w1 (w1.alloc (.cells (sC sB) 27)) := (Below.refl _ _).alloc (Nat.le_refl _) _
        have HP2 := Lib.hid (PM.below HP1.out hx)
        have HB2 := Lib.hid (HB1.out.trans (hx.mono HB1.out.size))
        have HS2 := Lib.hid (Blk.new w1 27 (sC sB))
        have HG := Lib.hid (show (∀ q, h.B q → q < w1.heap.size) ∧ W.heap.size ≤ w1.heap.size from ⟨fun q hq => (HP1.out.lt hq).2, HB1.out.size⟩)
        obtain ⟨w2, hw2⟩ : ∃ w2, w1.alloc (.cells (sC sB) 27) = w2 := ⟨_, rfl⟩
        rw [hw2] at HP2 HB2 HS2
        have hw2' : w1.alloc (.cells #[.int .u32 5, .int .u32 536870912, .int .u32 0, .int .u32 0, .int .u32 0, .int .u32 0, .int .u32 0, .int .u32 0, .int .u32 0, .bool false, .bool false, .bool false, .bool false] 27) = w2 := hw2
        rw [hw2']
        generalize w1.heap.size = gs at *
        clear hw2 hw2' hx HP1 HB1
        have HI0 := Lib.hid (show B2 W zs k n1 h gs 0 sB ⟨cws zs k, noughts 4, [], 0, 0⟩ w2 from ⟨HP2.out, HS2.out, HB2.out, rfl, rfl, rfl, noughts_len 4⟩)
        clear HP2 HB2 HS2
        have HB0 := Lib.hid (show (0 : Int) = (⟨cws zs k, noughts 4, [], 0, 0⟩ : St).b from rfl)
        generalize (⟨cws zs k, noughts 4, [], 0, 0⟩ : St) = m0 at *
        clear HI HZ0 HZ1 HZ2
        go_wp2_with fail
        go_loopw [7, 8] (fun vb vi wr => ∃ j : Nat, j ≤ k ∧ vi = .int .i64 j ∧ ∃ (s : S) (m : St), vb = .int .u32 m.b ∧ Hid (B2 W zs k n1 h gs j s m wr)) (fun _ vi _ => k - (intOf vi).toNat)
        case atStart => exact ⟨0, Nat.zero_le _, rfl, sB, m0, by rw [← HB0.out], HI0⟩
        case round =>
          clear HI0
          obtain ⟨j, hj, rfl, s, m, rfl, HI⟩ := hrel
          by_cases hlt : j < k
          · have hjl : j < zs.length := by have := HN.out.1; omega
            have hk20 : k ≤ 20 := HN.out.2.1
            have hcell : (zs.map (Value.int .u32))[j]? = some (.int .u32 (zs.getD j 0)) := by simp [List.getElem?_eq_getElem hjl, List.getD]
            obtain ⟨b, o, rfl, hbw, hcc⟩ := HL.out.at_ hcell
            have e0 := hcc _ _ hcell
            have hzk := HZ.out (zs.getD j 0) (by rw [List.getD_eq_getElem?_getD, List.getElem?_eq_getElem hjl]; exact List.getElem_mem hjl)
            have hfe : fetchV m (s.pc.toNat : Int) = (cw (zs.getD j 0), 0) := by
              rw [HI.out.pc, pc_at j (by omega), fetch_code m _ j rfl (by omega), HI.out.c, HCL.out, if_pos hlt, cws_get zs k j hlt HN.out.1]
            generalize zs.getD j 0 = z at *
            have hz0 : 0 ≤ z := hzk.1
            obtain ⟨x, l, m', hlv, hbs⟩ := bus_step s m z hz0 hfe HI.out.r1 HI.out.w HI.out.p.fit
            have hcs := lstep s n1 h m wr HI.out.p W HT.out HI.out.low HQ.out
            rw [hlv] at hcs
            have had : u l.ad = .int .u32 (536870912 + 4 * (z / 2 % 4)) := by show Value.int .u32 (l.ad.toNat : Int) = _; rw [hbs.ad, Int.toNat_of_nonneg (by omega)]
            have hbu : u l.bus = .int .u32 m.b := by rw [hbs.bus]; exact (bus_u HI.out.p.fit).symm
            have HAD := Lib.hid had; have HBU := Lib.hid hbu; have HBS := Lib.hid hbs; have HCS := Lib.hid hcs; have HLT := Lib.hid hlt
            have HE := Lib.hid (show ∀ w', Below W.heap.size W w' → w'.cell? ⟨b, o + j, none⟩ = some (.int .u32 z) from fun w' hb => (hb.cell (p := ⟨b, o + j, none⟩) hbw).trans e0)
            have hjk2 : (j : Int) < (k : Int) := by omega
            have hjl2 : (j : Int) < (zs.length : Int) := by omega
            have hj0 : (0 : Int) ≤ (j : Int) := by omega
            clear hcell hcc e0 hfe hlv hbs had hbu hcs hbw hjl
            obtain ⟨n0', n1', n2', n3', n4', n5, n6, n7, n8, n9, n10, n11, n12⟩ := Blk.cells13 HI.out.b
            go_wp2_with fail
            refine HCS.out.mono ?_
            rintro e w7 ⟨rfl, hp7, hu7⟩
            have HP7 := Lib.hid hp7
            have HS7 := Lib.hid (HI.out.b.upd hu7 (fun hx => by have := HG.out.1 gs (Hd.XB hx); omega))
            have HB7 := Lib.hid (show Below W.heap.size W w7 from back HI.out.low hu7 (fun q hq => Nat.le_trans HQ.out (HI.out.p.X_low q hq)))
            clear hp7 hu7 n0' n1' n2' n3' n4' n5 n6 n7 n8 n9 n10 n11 n12 HCS
            go_upto_region 15 with fail
            have hx : Below w7.heap.size w7 ((w7.alloc (.cells (sC x) 27)).alloc (.cells (lC l) 42)) := ((Below.refl _ _).alloc (Nat.le_refl _) _).alloc (by simp) _
            have hkx : Blk ((w7.alloc (.cells (sC x) 27)).alloc (.cells (lC l) 42)) w7.heap.size 27 (sC x) := (Blk.new w7 27 (sC x)).alloc _
            have hkl : Blk ((w7.alloc (.cells (sC x) 27)).alloc (.cells (lC l) 42)) (w7.heap.size + 1) 42 (lC l) := by
              have := Blk.new (w7.alloc (.cells (sC x) 27)) 42 (lC l)
              simpa only [World.size_alloc] using this
            have HP8 := Lib.hid (PM.below HP7.out hx)
            have HS8 := Lib.hid (HS7.out.below hx HS7.out.lt)
            have HB8 := Lib.hid (HB7.out.trans (hx.mono HB7.out.size))
            have HKX := Lib.hid hkx; have HKL := Lib.hid hkl
            have HGX := Lib.hid (show gs < w7.heap.size ∧ W.heap.size ≤ w7.heap.size from ⟨HS7.out.lt, HB7.out.size⟩)
            obtain ⟨w8, hw8⟩ : ∃ w8, (w7.alloc (.cells (sC x) 27)).alloc (.cells (lC l) 42) = w8 := ⟨_, rfl⟩
            rw [hw8] at HP8 HS8 HB8 HKX HKL
            have hw8' : (w7.alloc (.cells #[u (x.r 0), u (x.r 1), u (x.r 2), u (x.r 3), u (x.r 4), u (x.r 5), u (x.r 6), u (x.r 7), u x.pc, .bool x.n, .bool x.z, .bool x.c, .bool x.v] 27)).alloc (.cells #[u l.pc, .int .u16 (l.h : Int), u l.a, u l.b, u l.r, u l.o, u l.bus, u l.ad, .bool l.me, .bool l.rn] 42) = w8 := hw8
            rw [hw8']
            generalize w7.heap.size = gx at *
            clear hw8 hw8' hx hkx hkl HP7 HS7 HB7
            have e1 := HE.out w8 HB8.out
            have y6 : w8.cell? ⟨gx + 1, 6, none⟩ = some (.int .u32 m.b) := by rw [← HBU.out]; exact HKL.out.cell 6
            have y7 : w8.cell? ⟨gx + 1, 7, none⟩ = some (.int .u32 (536870912 + 4 * (z / 2 % 4))) := by rw [← HAD.out]; exact HKL.out.cell 7
            have y8 : w8.cell? ⟨gx + 1, 8, none⟩ = some (.bool true) := by rw [← HBS.out.me]; exact HKL.out.cell 8
            have y9 : w8.cell? ⟨gx + 1, 9, none⟩ = some (.bool false) := by rw [← HBS.out.rn]; exact HKL.out.cell 9
            obtain ⟨d, hd⟩ : ∃ d, z / 2 = d := ⟨_, rfl⟩
            obtain ⟨q, hq⟩ : ∃ q, d % 4 = q := ⟨_, rfl⟩
            rw [hd, hq] at y7
            have hd0 : 0 ≤ d ∧ d < 4294967296 := by have := hzk.2; omega
            have hq0 : 0 ≤ q ∧ q < 4 := by omega
            have t2 : z.tdiv 2 = d := by rw [Int.tdiv_eq_ediv_of_nonneg hz0]; exact hd
            have t3 : d.tmod 4 = q := by rw [Int.tmod_eq_emod_of_nonneg hd0.1]; exact hq
            have x2 : IntKind.u32.wrap d = d := by rw [IntKind.wrap_u32]; omega
            have x3 : IntKind.u32.wrap q = q := by rw [IntKind.wrap_u32]; omega
            have w3 : IntKind.u32.wrap (4 * q) = 4 * q := by rw [IntKind.wrap_u32]; omega
            have w4 : IntKind.u32.wrap (536870912 + 4 * q) = 536870912 + 4 * q := by rw [IntKind.wrap_u32]; omega
            clear hd0 hq0 hzk
            generalize hmb : m.b = mb at *
            go_quiet (fail)
            have HP9 := Lib.hid (PM.below HP8.out (below_drewN (Below.refl _ _) nq))
            have HS9 := Lib.hid (HS8.out.drewN nq)
            have HB9 := Lib.hid (below_drewN HB8.out nq)
            have HKX9 := Lib.hid (HKX.out.drewN nq); have HKL9 := Lib.hid (HKL.out.drewN nq)
            generalize w8.drewN nq = w9 at *
            clear e1 y6 y7 y8 y9 t2 t3 x2 x3 w3 w4 hd hq hmb HP8 HS8 HB8 HKX HKL
            have c0 : w9.cell? ⟨gx, 0, none⟩ = some (u (x.r 0)) := HKX9.out.cell 0
            have f0 := HKX9.out.frozen 0
            obtain ⟨x0, hx0⟩ : ∃ x0, x.r 0 + 3#32 = x0 := ⟨_, rfl⟩
            have hxw : IntKind.u32.wrap (((x.r 0).toNat : Int) + 3) = (x0.toNat : Int) := by rw [IntKind.wrap_u32, ← hx0]; exact add_w (x.r 0) 3#32
            have hbx := bd (x.r 0)
            clear hx0
            go_upto_region 18 with fail
            have hU := upd_set w9 gx 0 (u x0) (Upd.refl _ w9)
            have HP10 := Lib.hid (HP9.out.upd hU (fun q hq e => by have h1 := HG.out.1 q hq; have h2 := HGX.out.1; omega))
            have HS10 := Lib.hid (HS9.out.upd hU (by have := HGX.out.1; omega))
            have HB10 := Lib.hid (upd_low HB9.out hU HGX.out.2)
            have HKX10 := Lib.hid (HKX9.out.up 0 (by decide) x0)
            have HKL10 := Lib.hid (HKL9.out.upd hU (by omega))
            obtain ⟨w10, hw10⟩ : ∃ w10, w9.setCell ⟨gx, 0, none⟩ (u x0) = w10 := ⟨_, rfl⟩
            rw [hw10] at HP10 HS10 HB10 HKX10 HKL10
            rw [hw10]
            clear hw10 hU c0 f0 hxw HP9 HS9 HB9 HKX9 HKL9
            obtain ⟨n0', n1', n2', n3', n4', n5, n6, n7, n8, n9, n10, n11, n12⟩ := Blk.cells13 HKX10.out
            simp only [S.up] at n0' n1' n2' n3' n4' n5 n6 n7 n8 n9 n10 n11 n12
            simp at n0' n1' n2' n3' n4' n5 n6 n7
            have y4 : w10.cell? ⟨gx + 1, 4, none⟩ = some (u l.r) := HKL10.out.cell 4
            obtain ⟨z0, z1, z2, z3, z4, z5, z6, z7, z8, z9, z10, z11, z12⟩ := Blk.cells13 HS10.out
            obtain ⟨f0, f1, f2, f3, f4, f5, f6, f7, f8, f9, f10, f11, f12⟩ := Blk.frozen13 HS10.out
            have hgx : gs < gx := HGX.out.1
            go_region
            obtain ⟨hB, hU⟩ := blk13 HS10.out (x.up 0 x0)
            have hp11 := HP10.out.upd hU (fun q hq e => by have h1 := HG.out.1 q hq; omega)
            have hb11 := upd_low HB10.out hU HG.out.2
            obtain ⟨w11, hw11⟩ : ∃ w11, put13 w10 gs (x.up 0 x0) = w11 := ⟨_, rfl⟩
            rw [hw11] at hB hp11 hb11
            have hw11' : (((((((((((((w10.setCell ⟨gs, 0, none⟩ (u x0)).setCell ⟨gs, 1, none⟩ (u (x.r 1))).setCell ⟨gs, 2, none⟩ (u (x.r 2))).setCell ⟨gs, 3, none⟩ (u (x.r 3))).setCell ⟨gs, 4, none⟩ (u (x.r 4))).setCell ⟨gs, 5, none⟩ (u (x.r 5))).setCell ⟨gs, 6, none⟩ (u (x.r 6))).setCell ⟨gs, 7, none⟩ (u (x.r 7))).setCell ⟨gs, 8, none⟩ (u x.pc)).setCell ⟨gs, 9, none⟩ (.bool x.n)).setCell ⟨gs, 10, none⟩ (.bool x.z)).setCell ⟨gs, 11, none⟩ (.bool x.c)).setCell ⟨gs, 12, none⟩ (.bool x.v)) = w11 := hw11
            rw [hw11']
            have HNX := Lib.hid (show B2 W zs k n1 h gs (j + 1) (x.up 0 x0) m' w11.drew from ⟨hp11.drew, hB.drew, hb11.drew, (by show x.pc = _; rw [HBS.out.pc, HI.out.pc, pc_next j (by omega)]), (by show x.r 1 = _; rw [HBS.out.r1]; exact HI.out.r1), by rw [HBS.out.c]; exact HI.out.c, HBS.out.w⟩)
            have HBB := Lib.hid HBS.out.b
            clear hw11 hw11' hB hU hp11 hb11 n0' n1' n2' n3' n4' n5 n6 n7 n8 n9 n10 n11 n12 y4 z0 z1 z2 z3 z4 z5 z6 z7 z8 z9 z10 z11 z12 f0 f1 f2 f3 f4 f5 f6 f7 f8 f9 f10 f11 f12 HP10 HS10 HB10 HKX10 HKL10 HAD HBU HBS HE
            generalize w11.drew = w12 at *
            go_wp2_with fail
            go_roundw
            case rel => exact ⟨j + 1, by have := HLT.out; omega, by go_num, x.up 0 x0, m', by rw [HBB.out], HNX⟩
            case measure => have := HLT.out; simp [intOf]; omega
          · obtain rfl : j = k := by omega
            have hjj : decide (j < j) = false := by simp
            clear hlt hj
            go_wp2_with fail
            refine (Mm.bus _ h _ _ HI.out.p).mono ?_
            rintro e w5 ⟨rfl, rfl⟩
            go_wp2_with fail
            refine (lives _ (HT.out.below HI.out.low)).mono ?_
            rintro e w6 ⟨rfl, hb⟩
            have HB6 := Lib.hid (HI.out.low.trans (hb.mono HI.out.low.size))
            clear hb
            go_wp2_with fail
            go_ret
            exact ⟨rfl, HB6.out⟩
theorem leakBus.walk (W : World) (v : Value) (zs : List Int) (hv : Ints .u32 4 W v zs) (hT : Tp.Tb W) : Calls Tryd.prog 6 #[v] W fun e w' => e = .returned (.bool true) ∧ Below W.heap.size W w' := by
  obtain ⟨A, cap, rfl, hlc, hcm, hL⟩ := hv.ex
  have hz : ∀ z ∈ zs, 0 ≤ z ∧ z < 4294967296 := fun z hz => by have := bounds_u32 (hv.wf z hz); omega
  have hr := hv.reach
  by_cases h : zs.length ≤ 20
  · exact bus W A cap zs hz hL (by omega) hT zs.length ⟨Nat.le_refl _, h, .inl rfl⟩
  · exact bus W A cap zs hz hL (by omega) hT 20 ⟨by omega, Nat.le_refl _, .inr rfl⟩
end Go.Proofs.YtcigchpcffpemaaDoor.Lk
