/- DERIVED. TpTake, TpBack, TpPTk in one text. By an AI agent. -/
import Derived.Test.YtnngnfajmncjpaaGreatDoorZ21
import Derived.Test.YtnngnfajmncjpaaGreatDoorZ22
/- DERIVED. The contract of the program's Take. By an AI agent. -/
namespace Go.Proofs.YtnngnfajmncjpaaGreatDoor.Tp
open Go.ChangeShapes Go.WideShapes Go.ChangeAt Go.RowKit Go.Sort ThRef
set_option linter.unusedVariables false
def tkT : List Nat → Nat → Nums → Nums
  | [], _, s => s
  | k :: l, h, s => tkT l h (s.set (fldN k).of (takeN (fldN k) h))
def nul : Nums := ⟨0, 0, 0, 0⟩
def tk (op h : Nat) : Nums := tkT (shpN op).has h nul
def canN (op : Nat) (s : Nums) : Bool := canB op s.d s.n s.m s.i
def headB (op h : Nat) : Bool := decide (h / 2 ^ (shpN op).low = (shpN op).head)
def takeF : Nat → Nat → Nat → Nat × Nums × Nat
  | 0, _, _ => (0, nul, 20)
  | n + 1, op, h => if headB op h && canN op (tk op h) then (op, tk op h, 0) else takeF n (op + 1) h
def resV (r : Nat × Nums × Nat) : Value := .tuple #[insN r.1 r.2.1, .int .i64 r.2.2]
theorem heap_set {w : World} {b i : Nat} {v : Value} {cs : Array Value} {t : TypeId} {fr : Nat × Nat} (h : w.heap[b]? = some (.cells cs t fr)) : (w.setCell ⟨b, i, none⟩ v).heap[b]? = some (.cells (cs.setIfInBounds i v) t fr) := by
  have hl : b < w.heap.size := (Array.getElem?_eq_some_iff.1 h).1
  have h' : w.heap[b] = _ := Array.getElem_eq_iff.2 h
  unfold World.setCell
  rw [Array.getElem?_eq_getElem (by simpa using hl), Array.getElem_modify, if_pos rfl, h']
  rfl
theorem Holds.store {b k : Nat} {s : Nums} {w : World} (h : Holds b k s w) (k' : Nat) (s' : Nums) :
    Holds b k' s' (((((w.setCell ⟨b, 0, none⟩ (.int .i64 k')).setCell ⟨b, 1, none⟩ (.int .i64 s'.d)).setCell ⟨b, 2, none⟩ (.int .i64 s'.n)).setCell ⟨b, 3, none⟩ (.int .i64 s'.m)).setCell ⟨b, 4, none⟩ (.int .i64 s'.i)) := by
  unfold Holds at h ⊢
  rw [heap_set (heap_set (heap_set (heap_set (heap_set h))))]
  rfl
theorem ret_res {b k e : Nat} {s : Nums} {w0 w : World} {tmps : Array Value} {r : Nat × Nums × Nat} (h : Holds b k s w) (h2 : tmps.getD 2 undef = .pointer (some ⟨b, 0, none⟩)) (h3 : tmps.getD 3 undef = .int .i64 e) (hr : r = (k, s, e)) (hb : Below w0.heap.size w0 w) :
    bodyPost Tryz.prog Tryz.f19 (fun x w' => x = .returned (resV r) ∧ Below w0.heap.size w0 w') Exit.ret ⟨tmps, []⟩ w := by
  have q0 := h.cell 0; have q1 := h.cell 1; have q2 := h.cell 2; have q3 := h.cell 3; have q4 := h.cell 4
  have h2' : tmps[2]?.getD undef = .pointer (some ⟨b, 0, none⟩) := by simpa using h2
  have h3' : tmps[3]?.getD undef = .int .i64 e := by simpa using h3
  subst hr
  exact bodyPost_ret (v := resV (k, s, e)) (by simp [results, Tryz.results19, go_sem, h2', h3', q0, q1, q2, q3, q4, resV]) rfl ⟨rfl, hb⟩
set_option maxRecDepth 100000 in
set_option maxHeartbeats 8000000 in
theorem takeP (hf : Nat) (hh : hf < 65536) (w : World) (hT : Tb w) : Calls Tryz.prog 19 #[.int .u16 hf] w fun e w' => e = .returned (resV (takeF 21 0 hf)) ∧ Below w.heap.size w w' := by
  have HT := Lib.hid hT
  clear hT
  go_enter Tryz.func19, Tryz.ntmps19
  go_wp2_with fail
  go_loopw [9] (fun vo wr => ∃ op : Nat, op ≤ 21 ∧ vo = .int .i64 op ∧ Hid (Holds w.heap.size 0 nul wr ∧ Below w.heap.size w wr ∧ takeF (21 - op) op hf = takeF 21 0 hf)) (fun vo _ => 21 - (intOf vo).toNat)
  case atStart => exact ⟨0, by omega, rfl, Lib.hid ⟨holds_new w 0 nul, (Below.refl _ _).alloc (Nat.le_refl _) _, rfl⟩⟩
  case round =>
    obtain ⟨op, hop, rfl, HH⟩ := hrel
    by_cases hlt : op < 21
    · have hTr := HT.out.below HH.out.2.1
      obtain ⟨a, cap, t2, hrow⟩ := hTr.s2 op hlt
      have t0 := hTr.s0 op hlt; have t1 := hTr.s1 op hlt
      have gs := hTr.gs
      obtain ⟨b1, b2, b3⟩ := base_ok op hlt
      have htf : takeF (21 - op) op hf = if headB op hf && canN op (tk op hf) then (op, tk op hf, 0) else takeF (21 - (op + 1)) (op + 1) hf := by
        rw [show 21 - op = (21 - (op + 1)) + 1 by omega, takeF]
      rw [HH.out.2.2] at htf
      have HTF := Lib.hid htf; have HTR := Lib.hid hTr; have HR := Lib.hid hrow
      clear htf hTr hrow
      by_cases hq : hf / 2 ^ (shpN op).low = (shpN op).head
      · have e1 : (((hf : Int) / 2 ^ (shpN op).low) != ((shpN op).head : Int)) = false := by
          have e : ((hf : Int) / 2 ^ (shpN op).low) = ((hf / 2 ^ (shpN op).low : Nat) : Int) := by rw [Int.natCast_ediv, Int.natCast_pow]; rfl
          rw [e, hq]; simp
        have HQ := Lib.hid hq
        clear hq
        go_wp2_with fail
        go_quiet (fail)
        have HH2 := Lib.hid (And.intro (show Holds w.heap.size 0 nul (wr.drewN nq) from HH.out.1) (And.intro (below_drewN HH.out.2.1 nq) (And.intro (show Tb (wr.drewN nq) from HTR.out.below (below_drewN (Below.refl _ _) nq)) (show ∀ j x : Nat, (shpN op).has[j]? = some x → (wr.drewN nq).cell? (a.add j) = some (.int .i64 (x : Int)) from HR.out))))
        have s2 : (wr.drewN nq).cell? _ = _ := t2
        have gs2 : _ < (wr.drewN nq).heap.size := gs
        clear t0 t1 t2 HH HTR HR gs
        generalize wr.drewN nq = wd at *
        go_wp2_with fail
        have hlx := has_lt op hlt
        have hlen : (shpN op).has.length ≤ 3 := by
          have : ∀ i : Fin 21, (shpN i.val).has.length ≤ 3 := by decide +kernel
          exact this ⟨op, hlt⟩
        have HLX := Lib.hid hlx
        clear hlx
        go_loopw [30] (fun vi wx => ∃ (j : Nat) (s : Nums), j ≤ (shpN op).has.length ∧ vi = .int .i64 j ∧ Hid (Holds wd.heap.size op s wx ∧ Below wd.heap.size wd wx ∧ tkT ((shpN op).has.drop j) hf s = tk op hf)) (fun vi _ => (shpN op).has.length - (intOf vi).toNat)
        case atStart => exact ⟨0, nul, by omega, rfl, Lib.hid ⟨holds_new wd op nul, (Below.refl _ _).alloc (Nat.le_refl _) _, rfl⟩⟩
        case round =>
          rename World => wx
          obtain ⟨j, s, hj, rfl, HI⟩ := hrel
          by_cases hjl : j < (shpN op).has.length
          · have hx : (shpN op).has[j]? = some ((shpN op).has[j]'hjl) := List.getElem?_eq_getElem hjl
            have hx13 := HLX.out j _ hx
            have hcell := HH2.out.2.2.2 j _ hx
            have hblk := World.block_lt_of_cell? wd _ hcell
            have hcell2 : wx.cell? (a.add j) = _ := (HI.out.2.1.cell hblk).trans hcell
            have hblk2 := World.block_lt_of_cell? wx _ hcell2
            have hdrop := List.drop_eq_getElem_cons hjl
            generalize (shpN op).has[j]'hjl = x at hx hx13 hcell hcell2 hdrop
            have hTx := HH2.out.2.2.1.below HI.out.2.1
            have f0 := hTx.f0 x hx13; have f1 := hTx.f1 x hx13; have f2 := hTx.f2 x hx13; have f3 := hTx.f3 x hx13; have f4 := hTx.f4 x hx13
            have gf2 := hTx.gf
            have hok := fld_ok x hx13
            have HD := Lib.hid hdrop; have HOK := Lib.hid hok
            clear hcell hblk hx hdrop hTx hok
            go_wp2_with fail
            have hal : ∀ o, Below wx.heap.size wx (wx.alloc o) := fun o => (Below.refl _ _).alloc (Nat.le_refl _) _
            have hcc : ∀ j, (wx.alloc (.cells #[.int .i64 (fldN x).of, .int .u64 (fldN x).low, .int .u64 (fldN x).wid, .int .i64 (fldN x).least, .int .i64 (fldN x).most] 77)).cell? ⟨wx.heap.size, j, none⟩ = _ := fun j => World.cell?_alloc_at _ _ _ _ rfl
            have r0 := fun d os => cell_regrown (hcc 0) d os
            have r1 := fun d os => cell_regrown (hcc 1) d os
            have r2 := fun d os => cell_regrown (hcc 2) d os
            have r3 := fun d os => cell_regrown (hcc 3) d os
            have r4 := fun d os => cell_regrown (hcc 4) d os
            have hN := number (fldN x) wd.heap.size
            have hP := take (fldN x) hf hh HOK.out.1 HOK.out.2.2.1 HOK.out.2.2.2.1 HOK.out.2.2.2.2
            have HN := Lib.hid hN; have HP := Lib.hid hP
            have hbel := fun d os => (hal (.cells #[.int .i64 (fldN x).of, .int .u64 (fldN x).low, .int .u64 (fldN x).wid, .int .i64 (fldN x).least, .int .i64 (fldN x).most] 77)).trans ((below_regrown _ d os).mono (by simp))
            have HBEL := Lib.hid hbel
            clear hcc hN hP hal hbel f0 f1 f2 f3 f4 hcell2
            refine QT.wp_region_below_tail 6 (by kernel_rfl) (by kernel_rfl) ?_
            simp only [List.take_succ_cons, List.take_zero, List.drop_succ_cons, List.drop_zero]
            repeat (go_big_quiet_step ((first | (go_at_call 33; exact Calls.regrown_of (HN.out _)) | (go_at_call 32; exact Calls.regrown_of (HP.out _)))))
            refine wpQuiet_nil ?_
            intro _ hw'
            obtain ⟨⟨dq, osq⟩, hw''⟩ := hw'
            subst hw''
            have hb3 := HBEL.out dq osq
            have hH3 := HI.out.1.below hb3
            have hv := hH3.num (fldN x).of
            have hfr := hH3.free (1 + min (fldN x).of 3)
            have HS := Lib.hid (hH3.set (fldN x).of (takeN (fldN x) hf))
            have HB3 := Lib.hid hb3
            clear r0 r1 r2 r3 r4 hb3 hH3
            generalize 1 + min (fldN x).of 3 = o at *
            go_wp2_with fail
            go_roundw
            case rel => exact ⟨j + 1, _, by omega, by go_num, Lib.hid ⟨HS.out, (HI.out.2.1.trans (HB3.out.mono HI.out.2.1.size)).setCell (Nat.le_refl _) _, by rw [← HI.out.2.2, HD.out, tkT]⟩⟩
            case measure => simp [intOf]; omega
          · have hjn : (shpN op).has.drop j = [] := List.drop_eq_nil_of_le (by omega)
            have hs : s = tk op hf := by rw [← HI.out.2.2, hjn, tkT]
            subst hs
            clear hjn
            have q0 := HI.out.1.cell 0; have q1 := HI.out.1.cell 1; have q2 := HI.out.1.cell 2; have q3 := HI.out.1.cell 3; have q4 := HI.out.1.cell 4
            have hcan := can op (tk op hf).d (tk op hf).n (tk op hf).m (tk op hf).i wx (HH2.out.2.2.1.below HI.out.2.1)
            have htf := HTF.out
            have hhd : headB op hf = true := by unfold headB; rw [HQ.out]; simp
            rw [hhd, Bool.true_and] at htf
            have hcn : canN op (tk op hf) = canB op (tk op hf).d (tk op hf).n (tk op hf).m (tk op hf).i := rfl
            rw [hcn] at htf
            generalize canB op (tk op hf).d (tk op hf).n (tk op hf).m (tk op hf).i = cb at hcan htf
            have HCAN := Lib.hid hcan; have HTF2 := Lib.hid htf
            clear hcan htf hhd hcn HTF
            go_wp2_with fail
            refine HCAN.out.mono ?_
            rintro e w5 ⟨rfl, hb5⟩
            have hbwx : Below w.heap.size w wx := HH2.out.2.1.trans (HI.out.2.1.mono HH2.out.2.1.size)
            have HB5 := Lib.hid (hbwx.trans (hb5.mono hbwx.size))
            have hH5 := HI.out.1.below hb5
            have hR5 := (HH2.out.1.below HI.out.2.1).below hb5
            clear q0 q1 q2 q3 q4 hbwx
            cases cb
            · have HR5 := Lib.hid hR5
              clear hR5 hH5 hb5
              go_wp2_with fail
              go_roundw
              case rel => exact ⟨op + 1, by omega, by go_num, Lib.hid ⟨HR5.out, HB5.out, by rw [HTF2.out]; rfl⟩⟩
              case measure => simp [intOf]; omega
            · have q0 := hH5.cell 0; have q1 := hH5.cell 1; have q2 := hH5.cell 2; have q3 := hH5.cell 3; have q4 := hH5.cell 4
              have p0 := hR5.cell 0; have p1 := hR5.cell 1; have p2 := hR5.cell 2; have p3 := hR5.cell 3; have p4 := hR5.cell 4
              have z0 := hR5.free 0; have z1 := hR5.free 1; have z2 := hR5.free 2; have z3 := hR5.free 3; have z4 := hR5.free 4
              have HST := Lib.hid (hR5.store op (tk op hf))
              clear hb5 hR5 hH5
              go_wp2_with fail
              have hb6 := ((((HB5.out.setCell (p := ⟨w.heap.size, 0, none⟩) (Nat.le_refl _) (.int .i64 op)).setCell (p := ⟨w.heap.size, 1, none⟩) (Nat.le_refl _) (.int .i64 (tk op hf).d)).setCell (p := ⟨w.heap.size, 2, none⟩) (Nat.le_refl _) (.int .i64 (tk op hf).n)).setCell (p := ⟨w.heap.size, 3, none⟩) (Nat.le_refl _) (.int .i64 (tk op hf).m)).setCell (p := ⟨w.heap.size, 4, none⟩) (Nat.le_refl _) (.int .i64 (tk op hf).i)
              have hst := HST.out
              generalize ((((w5.setCell ⟨w.heap.size, 0, none⟩ (.int .i64 op)).setCell ⟨w.heap.size, 1, none⟩ (.int .i64 (tk op hf).d)).setCell ⟨w.heap.size, 2, none⟩ (.int .i64 (tk op hf).n)).setCell ⟨w.heap.size, 3, none⟩ (.int .i64 (tk op hf).m)).setCell ⟨w.heap.size, 4, none⟩ (.int .i64 (tk op hf).i) = w6 at *
              exact ret_res hst rfl rfl (by rw [HTF2.out]; rfl) hb6
      · have e1 : (((hf : Int) / 2 ^ (shpN op).low) != ((shpN op).head : Int)) = true := by
          have e : ((hf : Int) / 2 ^ (shpN op).low) = ((hf / 2 ^ (shpN op).low : Nat) : Int) := by rw [Int.natCast_ediv, Int.natCast_pow]; rfl
          rw [e]
          simp only [bne_iff_ne, ne_eq]
          intro hc
          exact hq (Int.natCast_inj.1 hc)
        have htf := HTF.out
        have hhd : headB op hf = false := by unfold headB; simpa using hq
        rw [hhd, Bool.false_and] at htf
        have HTF2 := Lib.hid htf
        clear hq htf hhd HTF
        go_wp2_with fail
        go_quiet (fail)
        go_wp2_with fail
        go_roundw
        case rel => exact ⟨op + 1, by omega, by go_num, Lib.hid ⟨HH.out.1, below_drewN HH.out.2.1 _, by rw [HTF2.out]; rfl⟩⟩
        case measure => simp [intOf]; omega
    · have e21 : op = 21 := by omega
      subst e21
      have hR := HH.out.1
      have p0 := hR.cell 0; have p1 := hR.cell 1; have p2 := hR.cell 2; have p3 := hR.cell 3; have p4 := hR.cell 4
      have z0 := hR.free 0; have z1 := hR.free 1; have z2 := hR.free 2; have z3 := hR.free 3; have z4 := hR.free 4
      have HST := Lib.hid (hR.store 0 nul)
      have htf := HH.out.2.2
      have HTF := Lib.hid htf
      clear hR htf
      go_wp2_with fail
      have hb6 := ((((HH.out.2.1.setCell (p := ⟨w.heap.size, 0, none⟩) (Nat.le_refl _) (.int .i64 0)).setCell (p := ⟨w.heap.size, 1, none⟩) (Nat.le_refl _) (.int .i64 0)).setCell (p := ⟨w.heap.size, 2, none⟩) (Nat.le_refl _) (.int .i64 0)).setCell (p := ⟨w.heap.size, 3, none⟩) (Nat.le_refl _) (.int .i64 0)).setCell (p := ⟨w.heap.size, 4, none⟩) (Nat.le_refl _) (.int .i64 0)
      exact ret_res HST.out rfl rfl (by rw [← HTF.out]; rfl) hb6
end Go.Proofs.YtnngnfajmncjpaaGreatDoor.Tp
/- DERIVED. Plain facts: what was put is taken; no two instructions have one halfword. By an AI agent. -/
namespace Go.Proofs.YtnngnfajmncjpaaGreatDoor.Tp
open Go.ChangeShapes Go.WideShapes Go.ChangeAt Go.RowKit Go.Sort ThRef
set_option linter.unusedVariables false
theorem sum_lt : ∀ (L : List Nat) (s : Nums) (lo : Nat), chain L lo = true → sumT L s < 2 ^ lo
  | [], _, lo, _ => Nat.two_pow_pos lo
  | k :: l, s, lo, hc => by
    simp only [chain, Bool.and_eq_true, decide_eq_true_eq] at hc
    obtain ⟨h1, h2⟩ := hc
    have h3 := sum_lt l s _ h2
    have hq : putN (fldN k) (s.get (fldN k).of) + 2 ^ (fldN k).low ≤ 2 ^ ((fldN k).wid + (fldN k).low) := by
      unfold putN
      have hp := Nat.two_pow_pos (fldN k).wid
      have h0 : 0 ≤ (s.get (fldN k).of) % ((2 ^ (fldN k).wid : Nat) : Int) := Int.emod_nonneg _ (by omega)
      have h1 : (s.get (fldN k).of) % ((2 ^ (fldN k).wid : Nat) : Int) < ((2 ^ (fldN k).wid : Nat) : Int) := Int.emod_lt_of_pos _ (by omega)
      generalize (s.get (fldN k).of) % ((2 ^ (fldN k).wid : Nat) : Int) = v at h0 h1
      have h4 : v.toNat + 1 ≤ 2 ^ (fldN k).wid := by omega
      calc v.toNat * 2 ^ (fldN k).low + 2 ^ (fldN k).low = (v.toNat + 1) * 2 ^ (fldN k).low := by rw [Nat.add_mul, Nat.one_mul]
        _ ≤ 2 ^ (fldN k).wid * 2 ^ (fldN k).low := Nat.mul_le_mul_right _ h4
        _ = _ := (Nat.pow_add _ _ _).symm
    have h5 : 2 ^ ((fldN k).wid + (fldN k).low) ≤ 2 ^ lo := Nat.pow_le_pow_right (by decide) h1
    rw [sumT]
    omega
def putI (k : Nat) (d n m imm : Int) : Nat := putR k d.toNat n.toNat m.toNat (if imm < 0 then imm + 2048 else imm).toNat
theorem putI_sum (k : Nat) (hk : k < 21) (d n m imm : Int) (h : canB k d n m imm = true) : putI k d n m imm = baseN k + sumT (shpN k).has ⟨d, n, m, imm⟩ := by
  obtain ⟨⟨d0, d1⟩, ⟨n0, n1⟩, ⟨m0, m1⟩, i0, i1⟩ := can_bounds k d n m imm h
  obtain ⟨D, rfl⟩ := Int.eq_ofNat_of_zero_le d0
  obtain ⟨N, rfl⟩ := Int.eq_ofNat_of_zero_le n0
  obtain ⟨M, rfl⟩ := Int.eq_ofNat_of_zero_le m0
  exact (sum_putR k hk D N M imm i0).symm
theorem head_put (k : Nat) (hk : k < 21) (d n m imm : Int) (h : canB k d n m imm = true) : headB k (putI k d n m imm) = true ∧ putI k d n m imm < 65536 := by
  obtain ⟨c1, c2⟩ := chain_ok k hk
  have h3 := sum_lt _ ⟨d, n, m, imm⟩ _ c1
  rw [putI_sum k hk d n m imm h]
  refine ⟨?_, ?_⟩
  · unfold headB baseN
    rw [decide_eq_true_eq, Nat.mul_comm, Nat.mul_add_div (Nat.two_pow_pos _), Nat.div_eq_of_lt h3, Nat.add_zero]
  · have hb : ∀ i : Fin 21, baseN i.val + 2 ^ (shpN i.val).low ≤ 65536 := by decide +kernel
    have := hb ⟨k, hk⟩
    simp only at this
    omega
theorem head_one (j k : Nat) (hj : j < 21) (hk : k < 21) (h : Nat) (h1 : headB j h = true) (h2 : headB k h = true) : j = k := by
  have H : ∀ a b : Fin 21, (shpN a.val).low ≤ (shpN b.val).low → (shpN a.val).head / 2 ^ ((shpN b.val).low - (shpN a.val).low) = (shpN b.val).head → a = b := by decide +kernel
  have key : ∀ a b : Fin 21, (shpN a.val).low ≤ (shpN b.val).low → headB a.val h = true → headB b.val h = true → a = b := by
    intro a b hl ha hb
    unfold headB at ha hb
    rw [decide_eq_true_eq] at ha hb
    refine H a b hl ?_
    rw [← ha, ← hb, Nat.div_div_eq_div_mul, ← Nat.pow_add]
    congr 2
    omega
  rcases Nat.le_total (shpN j).low (shpN k).low with hl | hl
  · have := key ⟨j, hj⟩ ⟨k, hk⟩ hl h1 h2
    exact congrArg Fin.val this
  · have := key ⟨k, hk⟩ ⟨j, hj⟩ hl h2 h1
    exact (congrArg Fin.val this).symm
theorem takeF_of (k h : Nat) (hk : k < 21) (h1 : headB k h = true) (h2 : canN k (tk k h) = true) : ∀ n op, op ≤ k → k < op + n → op + n ≤ 21 → takeF n op h = (k, tk k h, 0)
  | 0, op, _, _, _ => by omega
  | n + 1, op, ho, hn, hs => by
    rw [takeF]
    by_cases e : op = k
    · subst e
      rw [h1, h2]; rfl
    · have hf : headB op h = false := by
        cases hx : headB op h
        · rfl
        · exact absurd (head_one op k (by omega) hk h hx h1) e
      rw [hf]
      exact takeF_of k h hk h1 h2 n (op + 1) (by omega) (by omega) (by omega)
set_option maxHeartbeats 8000000 in
theorem tk_put (k : Nat) (hk : k < 21) (d n m imm : Int) (h : canB k d n m imm = true) : tk k (putI k d n m imm) = ⟨d, n, m, imm⟩ := by
  obtain ⟨⟨d0, d1⟩, ⟨n0, n1⟩, ⟨m0, m1⟩, i0, i1⟩ := can_bounds k d n m imm h
  rw [← canT_canB k hk] at h
  obtain ⟨D, rfl⟩ := Int.eq_ofNat_of_zero_le d0
  obtain ⟨N, rfl⟩ := Int.eq_ofNat_of_zero_le n0
  obtain ⟨M, rfl⟩ := Int.eq_ofNat_of_zero_le m0
  unfold putI
  simp only [Int.toNat_natCast]
  have hI : ∃ I : Nat, (if imm < 0 then imm + 2048 else imm).toNat = I ∧ (imm = I ∧ I < 1024 ∨ imm = (I : Int) - 2048 ∧ 1024 ≤ I ∧ I < 2048) := ⟨(if imm < 0 then imm + 2048 else imm).toNat, rfl, by split <;> omega⟩
  obtain ⟨I, e, hI⟩ := hI
  rw [e]
  clear e i0 i1 d0 n0 m0
  have hr : k = 0 ∨ k = 1 ∨ k = 2 ∨ k = 3 ∨ k = 4 ∨ k = 5 ∨ k = 6 ∨ k = 7 ∨ k = 8 ∨ k = 9 ∨ k = 10 ∨ k = 11 ∨ k = 12 ∨ k = 13 ∨ k = 14 ∨ k = 15 ∨ k = 16 ∨ k = 17 ∨ k = 18 ∨ k = 19 ∨ k = 20 := by omega
  clear hk
  rcases hr with rfl | rfl | rfl | rfl | rfl | rfl | rfl | rfl | rfl | rfl | rfl | rfl | rfl | rfl | rfl | rfl | rfl | rfl | rfl | rfl | rfl
  all_goals
    simp [canT, shpN, shps, fldN, flds, Nums.get, Nums.set] at h
    first | rw [put0] | rw [put1] | rw [put2] | rw [put3] | rw [put4] | rw [put5] | rw [put6] | rw [put7] | rw [put8] | rw [put9] | rw [put10] | rw [put11] | rw [put12] | rw [put13] | rw [put14] | rw [put15] | rw [put16] | rw [put17] | rw [put18] | rw [put19] | rw [put20]
    simp [tk, tkT, takeN, nul, shpN, shps, fldN, flds, Nums.set]
    omega
theorem take_put (k : Nat) (hk : k < 21) (d n m imm : Int) (h : canB k d n m imm = true) : takeF 21 0 (putI k d n m imm) = (k, ⟨d, n, m, imm⟩, 0) := by
  have ht := tk_put k hk d n m imm h
  have := takeF_of k (putI k d n m imm) hk (head_put k hk d n m imm h).1 (by rw [ht]; exact h) 21 0 (by omega) (by omega) (by omega)
  rw [this, ht]
end Go.Proofs.YtnngnfajmncjpaaGreatDoor.Tp
/- DERIVED. What Take finds is what Put puts: plain facts. By an AI agent. -/
namespace Go.Proofs.YtnngnfajmncjpaaGreatDoor
open Go.ChangeShapes Go.WideShapes Go.ChangeAt Go.RowKit Go.Sort ThRef Tp
set_option linter.unusedVariables false
theorem Tp.takeF_ok (h : Nat) : ∀ n op k s, takeF n op h = (k, s, 0) → headB k h = true ∧ canN k s = true ∧ s = tk k h ∧ k < op + n
  | 0, op, k, s, hr => by simp [takeF] at hr
  | n + 1, op, k, s, hr => by
    rw [takeF] at hr
    split at hr
    · rename_i hc
      simp at hc hr
      obtain ⟨rfl, rfl⟩ := hr
      exact ⟨hc.1, hc.2, rfl, by omega⟩
    · obtain ⟨h1, h2, h3, h4⟩ := Tp.takeF_ok h n (op + 1) k s hr
      exact ⟨h1, h2, h3, by omega⟩
set_option maxHeartbeats 8000000 in
theorem Tp.sum_tk (op : Nat) (ho : op < 21) (h : Nat) (hh : h < 65536) (hd : headB op h = true) : baseN op + sumT (shpN op).has (tk op h) = h := by
  unfold headB at hd
  rw [decide_eq_true_eq] at hd
  have hr : op = 0 ∨ op = 1 ∨ op = 2 ∨ op = 3 ∨ op = 4 ∨ op = 5 ∨ op = 6 ∨ op = 7 ∨ op = 8 ∨ op = 9 ∨ op = 10 ∨ op = 11 ∨ op = 12 ∨ op = 13 ∨ op = 14 ∨ op = 15 ∨ op = 16 ∨ op = 17 ∨ op = 18 ∨ op = 19 ∨ op = 20 := by omega
  clear ho
  rcases hr with rfl | rfl | rfl | rfl | rfl | rfl | rfl | rfl | rfl | rfl | rfl | rfl | rfl | rfl | rfl | rfl | rfl | rfl | rfl | rfl | rfl
  all_goals
    simp [shpN, shps] at hd
    simp [baseN, sumT, putN, shpN, shps, tk, tkT, takeN, nul, fldN, flds, Nums.get, Nums.set]
    omega
theorem Tp.put_take (op : Nat) (ho : op < 21) (h : Nat) (hh : h < 65536) (hd : headB op h = true) (hc : canN op (tk op h) = true) : putI op (tk op h).d (tk op h).n (tk op h).m (tk op h).i = h := by
  rw [putI_sum op ho _ _ _ _ hc]
  exact Tp.sum_tk op ho h hh hd
end Go.Proofs.YtnngnfajmncjpaaGreatDoor
