/- DERIVED. NmFn, NmUs in one text. By an AI agent. -/
import Derived.Test.YtpoepignpdfleaaGreatDoorZ13
import Derived.Carry
import Derived.Deep.Cut
/- DERIVED. The checker's function. By an AI agent. -/
namespace Go.Proofs.YtpoepignpdfleaaGreatDoor.Nm
open Go Go.ChangeShapes Go.WideShapes Go.ChangeAt Go.RowKit Lx Args Pa Sh
set_option linter.unusedVariables false
set_option linter.unusedSimpArgs false
theorem isN_has {w : World} {b n : Nat} {f : Bs → Bool} (h : MpS w b n f) : IsN w 35 (.map (some b)) f :=
  ⟨fun _ _ => by kernel_rfl, fun v hv s hs => has_ v b n f (h.upd (Upd.of_below hv fun _ => False) id) s hs⟩
theorem paB_cons (kn : Kn) (f : Bs) (sn : List Bs) (s : Bs) (l : List Bs) : paB kn f sn (s :: l) = if (s == f || isB kn s [1] || sn.contains s) = true then false else paB kn f (sn ++ [s]) l := rfl
theorem take_snoc {l : List Bs} {i : Nat} {p : Bs} (h : l[i]? = some p) : l.take (i + 1) = l.take i ++ [p] := by
  rw [List.take_add_one, h]; rfl
theorem has_snoc (l : List Bs) (p : Bs) : (fun t => l.contains t || t == p) = fun t => (l ++ [p]).contains t := by
  funext t
  by_cases h : t = p
  · subst h; simp
  · simp [h]
def fnB (a : Int) (s : Bs) (ps : List Bs) (l : List Tz) (c : St) : Rs :=
  if namedB c.kn s = true then .bad a else if paB c.kn s [] ps = false then .bad a else exR (exBs (fun t => ps.contains t) (callB c.kn) (l.take 1)) (.ok { c with kn := c.kn.put s (1, ps.length) })
set_option maxRecDepth 100000 in
set_option maxHeartbeats 8000000 in
theorem function (w0 w : World) (N : Nat → Prop) (lo g : Nat) (c : St) (m : Nat) (k a : Int) (s : Bs) (n : Nat) (A : Option Addr) (cA : Nat) (B : Option Addr) (cB : Nat) (ps : List Bs) (l : List Tz) (css : List (List Value)) (hb : Below w0.heap.size w0 w) (hL : Lies w0 A css.flatten) (hS : TsIz w0 l css) (hlc : l.length ≤ cA ∧ cA ≤ maxLen)
    (hB : Lies w0 B (ps.map strV)) (hps : ps.length ≤ maxLen) (hpl : ∀ p ∈ ps, p.length ≤ maxLen) (hs : s.length ≤ maxLen) (hlz : lenzs l) (hN : ∀ b, N b → w0.heap.size ≤ b) (hc : CK N lo w g c m) (hm : m + 1 ≤ 1099511627776) :
    Calls Tryz.prog 69 #[.pointer (some ⟨g, 0, none⟩), nzA k a s n A l.length cA B ps.length cB] w (StatP N lo w g (fnB a s ps l c) (m + 1)) := by
  obtain ⟨wn, hwn, hbn, hXn, hsn⟩ := a_box w (nB k a s n A l.length cA B ps.length cB)
  have HC0 := Lib.hid (in2_start hc hbn); have HU0 := Lib.hid (Upd.of_below hbn N); have HX0 := Lib.hid hXn; have HW := Lib.hid hwn; have HB0 := Lib.hid (hb.trans (hbn.mono hb.size))
  have HL := Lib.hid hL; have HS := Lib.hid hS; have HLC := Lib.hid hlc; have HBB := Lib.hid hB; have HPL := Lib.hid hpl; have HPS := Lib.hid hps; have HLZ := Lib.hid hlz; have HM := Lib.hid hm; have HN := Lib.hid (in2_low (w := w) hN (Nat.le_trans hb.size hbn.size)); have HSN := Lib.hid hsn; have HB1 := Lib.hid hb
  have hlm : l.length ≤ maxLen := Nat.le_trans hlc.1 hlc.2
  have hpm : ps.length ≤ 9223372036854775807 := hps
  obtain ⟨res, hres⟩ : ∃ res, fnB a s ps l c = res := ⟨_, rfl⟩
  rw [hres]
  have HRES := Lib.hid hres
  have hgl := hXn.lt
  have hdr : Below wn.heap.size wn wn.drew := Below.drew (Below.refl _ _)
  obtain ⟨wd, hwd⟩ : ∃ v, wn.drew = v := ⟨_, rfl⟩
  rw [hwd] at hdr
  have HXd := Lib.hid (HX0.out.below hdr HX0.out.lt); have HCd := Lib.hid (HC0.out.below hdr); have HUd := Lib.hid (upd_then HU0.out (Upd.of_below hdr fun _ => False) fun _ h => h.elim); have HBd := Lib.hid (HB0.out.trans (hdr.mono HB0.out.size))
  have hsd := hdr.size
  have hZ0 : Below wd.heap.size wd wd := Below.refl _ _
  have HIN := Lib.hid (isNamed wd g c.kn HCd.out.knp s hs)
  unfold fnB at HRES
  clear hc hbn hXn hwn hb hL hS hlz hm hN hlc hB hpl hps hres hsn hdr
  go_enter Tryz.func69, Tryz.ntmps69
  obtain ⟨⟨e0, e1, e2, e3, e4, e5⟩, z0, z1, z2, z3, z4, z5⟩ := Blk.c6 HX0.out
  go_wp2_with fail
  clear e0 e1 e2 e3 e4 e5 z0 z1 z2 z3 z4 z5
  rw [HW.out]
  refine HT.wp_region (Z := fun w' => Below wd.heap.size wd w') (S := fun _ => True) (st := []) (by kernel_rfl) ?_
  rw [hwd]
  clear hwd
  refine HT.takeP (i := 0) (v := ?_) rfl (by kernel_rfl) (by kernel_rfl) (by kernel_rfl) (by kernel_rfl) (fun _ _ _ h => h) (Or.inl ⟨by rfl, ?_⟩) hZ0 (fun _ => trivial) ?_
  rotate_left
  · (intro v hSw; have hA := HXd.out.below hSw HXd.out.lt; obtain ⟨⟨e0, e1, e2, e3, e4, e5⟩, z0, z1, z2, z3, z4, z5⟩ := Blk.c6 hA; clear hSw hA; go_simp; try with_reducible rfl)
  (try simp only [Act.put, List.getElem_toArray, List.getElem_cons_succ, List.getElem_cons_zero, List.setIfInBounds_toArray, List.set_cons_zero, List.set_cons_succ])
  refine HT.takeP (i := 1) (v := ?_) rfl (by kernel_rfl) (by kernel_rfl) (by kernel_rfl) (by kernel_rfl) (fun _ _ _ h => h) (Or.inl ⟨by rfl, ?_⟩) hZ0 (fun _ => trivial) ?_
  rotate_left
  · (intro v hSw; have hA := HXd.out.below hSw HXd.out.lt; obtain ⟨⟨e0, e1, e2, e3, e4, e5⟩, z0, z1, z2, z3, z4, z5⟩ := Blk.c6 hA; clear hSw hA; go_simp; try with_reducible rfl)
  (try simp only [Act.put, List.getElem_toArray, List.getElem_cons_succ, List.getElem_cons_zero, List.setIfInBounds_toArray, List.set_cons_zero, List.set_cons_succ])
  refine HT.takeP (i := 2) (v := ?_) rfl (by kernel_rfl) (by kernel_rfl) (by kernel_rfl) (by kernel_rfl) (fun _ _ _ h => h) (Or.inl ⟨by rfl, ?_⟩) hZ0 (fun _ => trivial) ?_
  rotate_left
  · (intro v hSw; have hA := HXd.out.below hSw HXd.out.lt; obtain ⟨⟨e0, e1, e2, e3, e4, e5⟩, z0, z1, z2, z3, z4, z5⟩ := Blk.c6 hA; clear hSw hA; go_simp; try with_reducible rfl)
  (try simp only [Act.put, List.getElem_toArray, List.getElem_cons_succ, List.getElem_cons_zero, List.setIfInBounds_toArray, List.set_cons_zero, List.set_cons_succ])
  refine HT.takeP (i := 3) (v := ?_) rfl (by kernel_rfl) (by kernel_rfl) (by kernel_rfl) (by kernel_rfl) (fun _ _ _ h => h) (Or.inl ⟨by rfl, ?_⟩) hZ0 (fun _ => trivial) ?_
  rotate_left
  · (intro v hSw; have hA := HXd.out.below hSw HXd.out.lt; obtain ⟨⟨e0, e1, e2, e3, e4, e5⟩, z0, z1, z2, z3, z4, z5⟩ := Blk.c6 hA; clear hSw hA; go_simp; try with_reducible rfl)
  (try simp only [Act.put, List.getElem_toArray, List.getElem_cons_succ, List.getElem_cons_zero, List.setIfInBounds_toArray, List.set_cons_zero, List.set_cons_succ])
  refine HT.one (i := 4) (by kernel_rfl) rfl (fun K hK => ?_)
  go_simp
  refine HIN.out.mono ?_
  rintro e w5 ⟨rfl, hb5⟩
  (try dsimp only)
  refine hK.out _ _ hb5 trivial ?_
  clear hK K
  (try simp only [Act.put, List.getElem_toArray, List.getElem_cons_succ, List.getElem_cons_zero, List.setIfInBounds_toArray, List.set_cons_zero, List.set_cons_succ])
  have HR := Lib.hid (refuse w5 k a s n A l.length cA B ps.length cB (namedB c.kn s))
  obtain ⟨q, hq⟩ : ∃ q, namedB c.kn s = q := ⟨_, rfl⟩
  rw [hq] at HR HRES ⊢
  clear HIN hq
  cases q with
  | true =>
    have HQ2 := Lib.hid (show Rs.bad a = res from HRES.out)
    refine HT.one (i := 5) (by kernel_rfl) rfl (fun K hK => ?_)
    go_simp
    refine (show Calls Tryz.prog 83 #[nzA k a s n A l.length cA B ps.length cB, .bool true] w5 _ from HR.out).mono ?_
    rintro e w6 ⟨rfl, hb6⟩
    have HEND := Lib.hid (show StatP N lo w g res (m + 1) (panW a) w6 from by rw [← HQ2.out]; exact ⟨rfl, upd_then (upd_then HUd.out (Upd.of_below hb5 fun _ => False) fun _ h => h.elim) (Upd.of_below hb6 fun _ => False) fun _ h => h.elim⟩)
    clear hb6
    exact ⟨rfl, HEND.out⟩
  | false =>
  have HRES : Hid ((if paB c.kn s [] ps = false then .bad a else exR (exBs (fun t => ps.contains t) (callB c.kn) (l.take 1)) (.ok { c with kn := c.kn.put s (1, ps.length) })) = res) := Lib.hid HRES.out
  refine HT.one (i := 5) (by kernel_rfl) rfl (fun K hK => ?_)
  go_simp
  refine (show Calls Tryz.prog 83 #[nzA k a s n A l.length cA B ps.length cB, .bool false] w5 _ from HR.out).mono ?_
  rintro e w6 ⟨rfl, hb6⟩
  have hz6 := hb5.trans (hb6.mono hb5.size)
  have HX6 := Lib.hid (HXd.out.below hz6 HXd.out.lt); have HC6 := Lib.hid (HCd.out.below hz6); have HU6 := Lib.hid (upd_then HUd.out (Upd.of_below hz6 fun _ => False) fun _ h => h.elim); have HB6 := Lib.hid (HBd.out.trans (hz6.mono HBd.out.size))
  have hs6 := hz6.size
  clear hb6
  (try dsimp only)
  refine hK.out _ _ hz6 trivial ?_
  clear hK K
  (try simp only [Act.put, List.getElem_toArray, List.getElem_cons_succ, List.getElem_cons_zero, List.setIfInBounds_toArray, List.set_cons_zero, List.set_cons_succ])
  refine HT.done (by kernel_rfl) ?_
  clear hb5 hz6 HR hZ0 HXd HCd HUd HBd HC0 HU0 HX0 HB0
  obtain ⟨wm, hwm⟩ : ∃ v, w6.alloc (.map #[] 0) = v := ⟨_, rfl⟩
  have hbm : Below w6.heap.size w6 wm := by rw [← hwm]; exact (Below.refl _ _).alloc (Nat.le_refl _) _
  have hmm : MpS wm w6.heap.size 0 (fun t => (ps.take 0).contains t) := by rw [← hwm]; exact MpS.made w6
  have hsm : wm.heap.size = w6.heap.size + 1 := by rw [← hwm]; simp
  have HXm := Lib.hid (HX6.out.below hbm HX6.out.lt); have HCm := Lib.hid (in2_start HC6.out hbm); have HUm := Lib.hid (upd_then HU6.out (Upd.of_below hbm fun _ => False) fun _ h => h.elim); have HBm := Lib.hid (HB6.out.trans (hbm.mono HB6.out.size))
  have HMM := Lib.hid hmm; have HWM := Lib.hid hwm; have HSM := Lib.hid hsm
  obtain ⟨rp, hrp⟩ : ∃ rp, paB c.kn s [] ps = rp := ⟨_, rfl⟩
  have HRP := Lib.hid hrp
  rw [hrp] at HRES
  have HNM := Lib.hid (show ¬ w.heap.size = w6.heap.size by have := HX6.out.lt; omega)
  have hlt6 := HX6.out.lt
  have hw06 := HB6.out.size
  clear hbm hmm hwm hrp hsm
  obtain ⟨⟨e0, e1, e2, e3, e4, e5⟩, z0, z1, z2, z3, z4, z5⟩ := Blk.c6 HXm.out
  have hmk : (Instr.makeMap 51 none).run Tryz.prog w6 = .ok (.map (some w6.heap.size)) wm := by rw [← HWM.out]; kernel_rfl
  go_wp2_with fail
  clear e0 e1 e2 e3 e4 e5 z0 z1 z2 z3 z4 z5
  go_loopw [19] (fun vi wr => ∃ i : Nat, i ≤ ps.length ∧ vi = .int .i64 (i : Int) ∧ Hid (CK (In2 (In2 N w wn) w6 wm) lo wr g c m) ∧ Hid (MpS wr w6.heap.size i (fun t => (ps.take i).contains t)) ∧ Hid (Upd N w wr) ∧ Hid (Below w0.heap.size w0 wr) ∧ Hid (Blk wr w.heap.size 26 (nB k a s n A l.length cA B ps.length cB)) ∧ Hid (paB c.kn s (ps.take i) (ps.drop i) = rp) ∧ Hid (wm.heap.size ≤ wr.heap.size)) (fun vi _ => ps.length - (intOf vi).toNat)
  case atStart => exact ⟨0, by omega, rfl, HCm, HMM, HUm, HBm, HXm, HRP, Lib.hid (Nat.le_refl _)⟩
  case round =>
    obtain ⟨i, hi, rfl, HC, HMI, HU, HBE, HX, HQ, HSZ⟩ := hrel
    by_cases hlt : i < ps.length
    · obtain ⟨p, hp⟩ : ∃ p, ps[i]? = some p := ⟨_, List.getElem?_eq_getElem hlt⟩
      have f1 : (ps.map strV)[i]? = some (.string ⟨p.toArray⟩) := by rw [List.getElem?_map, hp]; rfl
      obtain ⟨b, o, rfl, _, hc1⟩ := (HBB.out.below HBE.out).at_ f1
      have g1 := hc1 _ _ f1
      have hpp := HPL.out p (List.mem_of_getElem? hp)
      have hq := HQ.out
      rw [drop_at hp, paB_cons] at hq
      have HTS := Lib.hid (take_snoc hp)
      have hdr : Below wr.heap.size wr wr.drew := Below.drew (Below.refl _ _)
      obtain ⟨wd, hwd⟩ : ∃ v, wr.drew = v := ⟨_, rfl⟩
      rw [hwd] at hdr
      have HXd := Lib.hid (HX.out.below hdr HX.out.lt); have HCd := Lib.hid (HC.out.below hdr); have HUd := Lib.hid (upd_then HU.out (Upd.of_below hdr fun _ => False) fun _ h => h.elim); have HBd := Lib.hid (HBE.out.trans (hdr.mono HBE.out.size)); have HMd := Lib.hid (HMI.out.upd (Upd.of_below hdr fun _ => False) id)
      have hsd := hdr.size
      have hZ0 : Upd (fun b => b = w6.heap.size) wd wd := Upd.refl _ _
      obtain ⟨w4, hw4, hb4, hL4⟩ := sorts_box wd [1]
      have HW4 := Lib.hid hw4
      have HIS := Lib.hid (is_ w4 g c.kn (HCd.out.knp.below hb4) p hpp _ 1 [1] hL4 (by decide))
      have hz4 : Upd (fun b => b = w6.heap.size) wd w4 := Upd.of_below hb4 _
      have HB4 := Lib.hid hb4
      have HPAN := Lib.hid fun (v v2 : World) (h : Upd (fun b => b = w6.heap.size) wd v) (h2 : Below v.heap.size v v2) => upd_then (upd_then HUd.out h fun b hb hlt => by omega) (Upd.of_below h2 fun _ => False) fun _ h => h.elim
      clear hc1 f1 hp HQ hdr hw4 hL4 hb4
      go_wp2_with fail
      clear g1
      refine HT.wp_region (Z := fun w' => Upd (fun b => b = w6.heap.size) wd w') (S := fun _ => True) (st := []) (by kernel_rfl) ?_
      rw [hwd]
      clear hwd
      refine HT.takeP (i := 0) (v := ?_) rfl (by kernel_rfl) (by kernel_rfl) (by kernel_rfl) (by kernel_rfl) (fun _ _ _ h => h) (Or.inl ⟨by rfl, ?_⟩) hZ0 (fun _ => trivial) ?_
      rotate_left
      · (intro v hSw; have hA := HXd.out.upd hSw HNM.out; obtain ⟨⟨e0, e1, e2, e3, e4, e5⟩, z0, z1, z2, z3, z4, z5⟩ := Blk.c6 hA; clear hSw hA; go_simp; try with_reducible rfl)
      (try simp only [Act.put, List.getElem_toArray, List.getElem_cons_succ, List.getElem_cons_zero, List.setIfInBounds_toArray, List.set_cons_zero, List.set_cons_succ])
      refine HT.takeP (i := 1) (v := ?_) rfl (by kernel_rfl) (by kernel_rfl) (by kernel_rfl) (by kernel_rfl) (fun _ _ _ h => h) (Or.inl ⟨by rfl, ?_⟩) hZ0 (fun _ => trivial) ?_
      rotate_left
      · (intro v hSw; have hA := HXd.out.upd hSw HNM.out; obtain ⟨⟨e0, e1, e2, e3, e4, e5⟩, z0, z1, z2, z3, z4, z5⟩ := Blk.c6 hA; clear hSw hA; go_simp; try with_reducible rfl)
      (try simp only [Act.put, List.getElem_toArray, List.getElem_cons_succ, List.getElem_cons_zero, List.setIfInBounds_toArray, List.set_cons_zero, List.set_cons_succ])
      refine HT.takeP (i := 2) (v := ?_) rfl (by kernel_rfl) (by kernel_rfl) (by kernel_rfl) (by kernel_rfl) (fun _ _ _ h => h) (Or.inl ⟨by rfl, ?_⟩) hZ0 (fun _ => trivial) ?_
      rotate_left
      · (intro v hSw; have hA := HXd.out.upd hSw HNM.out; obtain ⟨⟨e0, e1, e2, e3, e4, e5⟩, z0, z1, z2, z3, z4, z5⟩ := Blk.c6 hA; clear hSw hA; go_simp; try with_reducible rfl)
      (try simp only [Act.put, List.getElem_toArray, List.getElem_cons_succ, List.getElem_cons_zero, List.setIfInBounds_toArray, List.set_cons_zero, List.set_cons_succ])
      refine HT.takeP (i := 3) (v := ?_) rfl (by kernel_rfl) (by kernel_rfl) (by kernel_rfl) (by kernel_rfl) (fun _ _ _ h => h) (Or.inl ⟨by rfl, ?_⟩) hZ0 (fun _ => trivial) ?_
      rotate_left
      · (intro v hSw; have hA := HXd.out.upd hSw HNM.out; obtain ⟨⟨e0, e1, e2, e3, e4, e5⟩, z0, z1, z2, z3, z4, z5⟩ := Blk.c6 hA; clear hSw hA; go_simp; try with_reducible rfl)
      (try simp only [Act.put, List.getElem_toArray, List.getElem_cons_succ, List.getElem_cons_zero, List.setIfInBounds_toArray, List.set_cons_zero, List.set_cons_succ])
      by_cases hpf : p = s
      · subst hpf
        have hb1 : (p == p) = true := by simp
        have HQ : Hid (false = rp) := Lib.hid (by rw [← hq, if_pos (by simp)])
        clear hq hb1
        refine HT.takeP (i := 4) (v := ?_) rfl (by kernel_rfl) (by kernel_rfl) (by kernel_rfl) (by kernel_rfl) (fun _ _ _ h => h) (Or.inl ⟨by rfl, ?_⟩) hZ0 (fun _ => trivial) ?_
        rotate_left
        · (intro v hSw; clear hSw; go_simp; try with_reducible rfl)
        (try simp only [Act.put, List.getElem_toArray, List.getElem_cons_succ, List.getElem_cons_zero, List.setIfInBounds_toArray, List.set_cons_zero, List.set_cons_succ])
        refine HT.takeP (i := 5) (v := ?_) rfl (by kernel_rfl) (by kernel_rfl) (by kernel_rfl) (by kernel_rfl) (fun _ _ _ h => h) (Or.inl ⟨by rfl, ?_⟩) hZ0 (fun _ => trivial) ?_
        rotate_left
        · (intro v hSw; clear hSw; go_simp; try with_reducible rfl)
        (try simp only [Act.put, List.getElem_toArray, List.getElem_cons_succ, List.getElem_cons_zero, List.setIfInBounds_toArray, List.set_cons_zero, List.set_cons_succ])
        refine HT.takeP (i := 6) (v := undef) rfl (by kernel_rfl) (by kernel_rfl) (by kernel_rfl) (by kernel_rfl) (fun _ _ _ h => h) (Or.inr ⟨by rfl, rfl⟩) hZ0 (fun _ => trivial) ?_
        (try simp only [Act.put, List.getElem_toArray, List.getElem_cons_succ, List.getElem_cons_zero, List.setIfInBounds_toArray, List.set_cons_zero, List.set_cons_succ])
        refine HT.takeP (i := 7) (v := undef) rfl (by kernel_rfl) (by kernel_rfl) (by kernel_rfl) (by kernel_rfl) (fun _ _ _ h => h) (Or.inr ⟨by rfl, rfl⟩) hZ0 (fun _ => trivial) ?_
        (try simp only [Act.put, List.getElem_toArray, List.getElem_cons_succ, List.getElem_cons_zero, List.setIfInBounds_toArray, List.set_cons_zero, List.set_cons_succ])
        refine HT.takeP (i := 8) (v := undef) rfl (by kernel_rfl) (by kernel_rfl) (by kernel_rfl) (by kernel_rfl) (fun _ _ _ h => h) (Or.inr ⟨by rfl, rfl⟩) hZ0 (fun _ => trivial) ?_
        (try simp only [Act.put, List.getElem_toArray, List.getElem_cons_succ, List.getElem_cons_zero, List.setIfInBounds_toArray, List.set_cons_zero, List.set_cons_succ])
        refine HT.takeP (i := 9) (v := undef) rfl (by kernel_rfl) (by kernel_rfl) (by kernel_rfl) (by kernel_rfl) (fun _ _ _ h => h) (Or.inr ⟨by rfl, rfl⟩) hZ0 (fun _ => trivial) ?_
        (try simp only [Act.put, List.getElem_toArray, List.getElem_cons_succ, List.getElem_cons_zero, List.setIfInBounds_toArray, List.set_cons_zero, List.set_cons_succ])
        refine HT.takeP (i := 10) (v := ?_) rfl (by kernel_rfl) (by kernel_rfl) (by kernel_rfl) (by kernel_rfl) (fun _ _ _ h => h) (Or.inl ⟨by rfl, ?_⟩) hZ0 (fun _ => trivial) ?_
        rotate_left
        · (intro v hSw; clear hSw; go_simp; try with_reducible rfl)
        (try simp only [Act.put, List.getElem_toArray, List.getElem_cons_succ, List.getElem_cons_zero, List.setIfInBounds_toArray, List.set_cons_zero, List.set_cons_succ])
        refine HT.takeP (i := 11) (v := ?_) rfl (by kernel_rfl) (by kernel_rfl) (by kernel_rfl) (by kernel_rfl) (fun _ _ _ h => h) (Or.inl ⟨by rfl, ?_⟩) hZ0 (fun _ => trivial) ?_
        rotate_left
        · (intro v hSw; clear hSw; go_simp; try with_reducible rfl)
        (try simp only [Act.put, List.getElem_toArray, List.getElem_cons_succ, List.getElem_cons_zero, List.setIfInBounds_toArray, List.set_cons_zero, List.set_cons_succ])
        refine HT.takeP (i := 12) (v := undef) rfl (by kernel_rfl) (by kernel_rfl) (by kernel_rfl) (by kernel_rfl) (fun _ _ _ h => h) (Or.inr ⟨by rfl, rfl⟩) hZ0 (fun _ => trivial) ?_
        (try simp only [Act.put, List.getElem_toArray, List.getElem_cons_succ, List.getElem_cons_zero, List.setIfInBounds_toArray, List.set_cons_zero, List.set_cons_succ])
        refine HT.takeP (i := 13) (v := undef) rfl (by kernel_rfl) (by kernel_rfl) (by kernel_rfl) (by kernel_rfl) (fun _ _ _ h => h) (Or.inr ⟨by rfl, rfl⟩) hZ0 (fun _ => trivial) ?_
        (try simp only [Act.put, List.getElem_toArray, List.getElem_cons_succ, List.getElem_cons_zero, List.setIfInBounds_toArray, List.set_cons_zero, List.set_cons_succ])
        refine HT.takeP (i := 14) (v := undef) rfl (by kernel_rfl) (by kernel_rfl) (by kernel_rfl) (by kernel_rfl) (fun _ _ _ h => h) (Or.inr ⟨by rfl, rfl⟩) hZ0 (fun _ => trivial) ?_
        (try simp only [Act.put, List.getElem_toArray, List.getElem_cons_succ, List.getElem_cons_zero, List.setIfInBounds_toArray, List.set_cons_zero, List.set_cons_succ])
        refine HT.takeP (i := 15) (v := undef) rfl (by kernel_rfl) (by kernel_rfl) (by kernel_rfl) (by kernel_rfl) (fun _ _ _ h => h) (Or.inr ⟨by rfl, rfl⟩) hZ0 (fun _ => trivial) ?_
        (try simp only [Act.put, List.getElem_toArray, List.getElem_cons_succ, List.getElem_cons_zero, List.setIfInBounds_toArray, List.set_cons_zero, List.set_cons_succ])
        refine HT.takeP (i := 16) (v := ?_) rfl (by kernel_rfl) (by kernel_rfl) (by kernel_rfl) (by kernel_rfl) (fun _ _ _ h => h) (Or.inl ⟨by rfl, ?_⟩) hZ0 (fun _ => trivial) ?_
        rotate_left
        · (intro v hSw; clear hSw; go_simp; try with_reducible rfl)
        (try simp only [Act.put, List.getElem_toArray, List.getElem_cons_succ, List.getElem_cons_zero, List.setIfInBounds_toArray, List.set_cons_zero, List.set_cons_succ])
        have HQ2 := Lib.hid (show Rs.bad a = res from by rw [← HRES.out, ← HQ.out]; rfl)
        refine HT.one (i := 17) (by kernel_rfl) rfl (fun K hK => ?_)
        go_simp
        refine (show Calls Tryz.prog 83 #[nzA k a p n A l.length cA (some ⟨b, o, none⟩) ps.length cB, .bool true] wd _ from (refuse wd k a p n A l.length cA (some ⟨b, o, none⟩) ps.length cB true)).mono ?_
        rintro e wy ⟨rfl, hby⟩
        have HEND := Lib.hid (show StatP N lo w g res (m + 1) (panW a) wy from by rw [← HQ2.out]; exact ⟨rfl, HPAN.out _ _ hZ0 hby⟩)
        clear hby
        exact ⟨rfl, HEND.out⟩
      have hb1 : (p == s) = false := by simpa using hpf
      have hq2 : (if (isB c.kn p [1] || (ps.take i).contains p) = true then false else paB c.kn s (ps.take i ++ [p]) (ps.drop (i + 1))) = rp := by rw [← hq, hb1, Bool.false_or]
      clear hq hpf
      refine HT.takeP (i := 4) (v := ?_) rfl (by kernel_rfl) (by kernel_rfl) (by kernel_rfl) (by kernel_rfl) (fun _ _ _ h => h) (Or.inl ⟨by rfl, ?_⟩) hZ0 (fun _ => trivial) ?_
      rotate_left
      · (intro v hSw; clear hSw; go_simp; try with_reducible rfl)
      (try simp only [Act.put, List.getElem_toArray, List.getElem_cons_succ, List.getElem_cons_zero, List.setIfInBounds_toArray, List.set_cons_zero, List.set_cons_succ])
      refine HT.takeP (i := 5) (v := ?_) rfl (by kernel_rfl) (by kernel_rfl) (by kernel_rfl) (by kernel_rfl) (fun _ _ _ h => h) (Or.inl ⟨by rfl, ?_⟩) hZ0 (fun _ => trivial) ?_
      rotate_left
      · (intro v hSw; clear hSw; go_simp; try with_reducible rfl)
      (try simp only [Act.put, List.getElem_toArray, List.getElem_cons_succ, List.getElem_cons_zero, List.setIfInBounds_toArray, List.set_cons_zero, List.set_cons_succ])
      refine HT.takeP (i := 6) (v := ?_) rfl (by kernel_rfl) (by kernel_rfl) (by kernel_rfl) (by kernel_rfl) (fun _ _ _ h => h) (Or.inl ⟨by rfl, ?_⟩) hZ0 (fun _ => trivial) ?_
      rotate_left
      · (intro v hSw; clear hSw; go_simp; try with_reducible rfl)
      (try simp only [Act.put, List.getElem_toArray, List.getElem_cons_succ, List.getElem_cons_zero, List.setIfInBounds_toArray, List.set_cons_zero, List.set_cons_succ])
      refine HT.takeP (i := 7) (v := ?_) rfl (by kernel_rfl) (by kernel_rfl) (by kernel_rfl) (by kernel_rfl) (fun _ _ _ h => h) (Or.inl ⟨by rfl, ?_⟩) hZ0 (fun _ => trivial) ?_
      rotate_left
      · (intro v hSw; clear hSw; go_simp; try with_reducible rfl)
      (try simp only [Act.put, List.getElem_toArray, List.getElem_cons_succ, List.getElem_cons_zero, List.setIfInBounds_toArray, List.set_cons_zero, List.set_cons_succ])
      refine HT.one (i := 8) (by kernel_rfl) rfl (fun K hK => ?_)
      go_simp
      rw [show wd.alloc (.cells #[.int .i64 1] 56) = w4 from HW4.out]
      (try dsimp only)
      refine hK.out _ _ hz4 trivial ?_
      clear hK K
      (try simp only [Act.put, List.getElem_toArray, List.getElem_cons_succ, List.getElem_cons_zero, List.setIfInBounds_toArray, List.set_cons_zero, List.set_cons_succ])
      refine HT.one (i := 9) (by kernel_rfl) rfl (fun K hK => ?_)
      go_simp
      refine (show Calls Tryz.prog 86 #[.pointer (some ⟨g, 0, none⟩), .string ⟨p.toArray⟩, .slice (some ⟨wd.heap.size, 0, none⟩) 1 1] w4 _ from HIS.out).mono ?_
      rintro e w5 ⟨rfl, hb5⟩
      have hbb5 := HB4.out.trans (hb5.mono HB4.out.size)
      have hz5 : Upd (fun b => b = w6.heap.size) wd w5 := Upd.of_below hbb5 _
      (try dsimp only)
      refine hK.out _ _ hz5 trivial ?_
      clear hK K
      (try simp only [Act.put, List.getElem_toArray, List.getElem_cons_succ, List.getElem_cons_zero, List.setIfInBounds_toArray, List.set_cons_zero, List.set_cons_succ])
      obtain ⟨q, hqq⟩ : ∃ q, isB c.kn p [1] = q := ⟨_, rfl⟩
      rw [hqq] at hq2 ⊢
      clear HIS hqq hz4
      cases q with
      | true =>
        have HQ : Hid (false = rp) := Lib.hid (by rw [← hq2, if_pos (by simp)])
        clear hq2
        refine HT.takeP (i := 10) (v := ?_) rfl (by kernel_rfl) (by kernel_rfl) (by kernel_rfl) (by kernel_rfl) (fun _ _ _ h => h) (Or.inl ⟨by rfl, ?_⟩) hz5 (fun _ => trivial) ?_
        rotate_left
        · (intro v hSw; clear hSw; go_simp; try with_reducible rfl)
        (try simp only [Act.put, List.getElem_toArray, List.getElem_cons_succ, List.getElem_cons_zero, List.setIfInBounds_toArray, List.set_cons_zero, List.set_cons_succ])
        refine HT.takeP (i := 11) (v := ?_) rfl (by kernel_rfl) (by kernel_rfl) (by kernel_rfl) (by kernel_rfl) (fun _ _ _ h => h) (Or.inl ⟨by rfl, ?_⟩) hz5 (fun _ => trivial) ?_
        rotate_left
        · (intro v hSw; clear hSw; go_simp; try with_reducible rfl)
        (try simp only [Act.put, List.getElem_toArray, List.getElem_cons_succ, List.getElem_cons_zero, List.setIfInBounds_toArray, List.set_cons_zero, List.set_cons_succ])
        refine HT.takeP (i := 12) (v := undef) rfl (by kernel_rfl) (by kernel_rfl) (by kernel_rfl) (by kernel_rfl) (fun _ _ _ h => h) (Or.inr ⟨by rfl, rfl⟩) hz5 (fun _ => trivial) ?_
        (try simp only [Act.put, List.getElem_toArray, List.getElem_cons_succ, List.getElem_cons_zero, List.setIfInBounds_toArray, List.set_cons_zero, List.set_cons_succ])
        refine HT.takeP (i := 13) (v := undef) rfl (by kernel_rfl) (by kernel_rfl) (by kernel_rfl) (by kernel_rfl) (fun _ _ _ h => h) (Or.inr ⟨by rfl, rfl⟩) hz5 (fun _ => trivial) ?_
        (try simp only [Act.put, List.getElem_toArray, List.getElem_cons_succ, List.getElem_cons_zero, List.setIfInBounds_toArray, List.set_cons_zero, List.set_cons_succ])
        refine HT.takeP (i := 14) (v := undef) rfl (by kernel_rfl) (by kernel_rfl) (by kernel_rfl) (by kernel_rfl) (fun _ _ _ h => h) (Or.inr ⟨by rfl, rfl⟩) hz5 (fun _ => trivial) ?_
        (try simp only [Act.put, List.getElem_toArray, List.getElem_cons_succ, List.getElem_cons_zero, List.setIfInBounds_toArray, List.set_cons_zero, List.set_cons_succ])
        refine HT.takeP (i := 15) (v := undef) rfl (by kernel_rfl) (by kernel_rfl) (by kernel_rfl) (by kernel_rfl) (fun _ _ _ h => h) (Or.inr ⟨by rfl, rfl⟩) hz5 (fun _ => trivial) ?_
        (try simp only [Act.put, List.getElem_toArray, List.getElem_cons_succ, List.getElem_cons_zero, List.setIfInBounds_toArray, List.set_cons_zero, List.set_cons_succ])
        refine HT.takeP (i := 16) (v := ?_) rfl (by kernel_rfl) (by kernel_rfl) (by kernel_rfl) (by kernel_rfl) (fun _ _ _ h => h) (Or.inl ⟨by rfl, ?_⟩) hz5 (fun _ => trivial) ?_
        rotate_left
        · (intro v hSw; clear hSw; go_simp; try with_reducible rfl)
        (try simp only [Act.put, List.getElem_toArray, List.getElem_cons_succ, List.getElem_cons_zero, List.setIfInBounds_toArray, List.set_cons_zero, List.set_cons_succ])
        have HQ2 := Lib.hid (show Rs.bad a = res from by rw [← HRES.out, ← HQ.out]; rfl)
        refine HT.one (i := 17) (by kernel_rfl) rfl (fun K hK => ?_)
        go_simp
        refine (show Calls Tryz.prog 83 #[nzA k a s n A l.length cA (some ⟨b, o, none⟩) ps.length cB, .bool true] w5 _ from (refuse w5 k a s n A l.length cA (some ⟨b, o, none⟩) ps.length cB true)).mono ?_
        rintro e wy ⟨rfl, hby⟩
        have HEND := Lib.hid (show StatP N lo w g res (m + 1) (panW a) wy from by rw [← HQ2.out]; exact ⟨rfl, HPAN.out _ _ hz5 hby⟩)
        clear hby
        exact ⟨rfl, HEND.out⟩
      | false =>
        have hq3 : (if (ps.take i).contains p = true then false else paB c.kn s (ps.take i ++ [p]) (ps.drop (i + 1))) = rp := by rw [← hq2, Bool.false_or]
        have HAD := Lib.hid (add_ w5 w6.heap.size i _ (HMd.out.upd (Upd.of_below hbb5 fun _ => False) id) (by unfold maxLen; omega) p hpp)
        unfold AddP at HAD
        obtain ⟨q, hqq⟩ : ∃ q, (ps.take i).contains p = q := ⟨_, rfl⟩
        have HQQ := Lib.hid hqq
        simp only [hqq] at HAD hq3
        clear hq2 hqq
        refine HT.takeP (i := 10) (v := ?_) rfl (by kernel_rfl) (by kernel_rfl) (by kernel_rfl) (by kernel_rfl) (fun _ _ _ h => h) (Or.inl ⟨by rfl, ?_⟩) hz5 (fun _ => trivial) ?_
        rotate_left
        · (intro v hSw; clear hSw; go_simp; try with_reducible rfl)
        (try simp only [Act.put, List.getElem_toArray, List.getElem_cons_succ, List.getElem_cons_zero, List.setIfInBounds_toArray, List.set_cons_zero, List.set_cons_succ])
        refine HT.takeP (i := 11) (v := ?_) rfl (by kernel_rfl) (by kernel_rfl) (by kernel_rfl) (by kernel_rfl) (fun _ _ _ h => h) (Or.inl ⟨by rfl, ?_⟩) hz5 (fun _ => trivial) ?_
        rotate_left
        · (intro v hSw; clear hSw; go_simp; try with_reducible rfl)
        (try simp only [Act.put, List.getElem_toArray, List.getElem_cons_succ, List.getElem_cons_zero, List.setIfInBounds_toArray, List.set_cons_zero, List.set_cons_succ])
        refine HT.takeP (i := 12) (v := ?_) rfl (by kernel_rfl) (by kernel_rfl) (by kernel_rfl) (by kernel_rfl) (fun _ _ _ h => h) (Or.inl ⟨by rfl, ?_⟩) hz5 (fun _ => trivial) ?_
        rotate_left
        · (intro v hSw; clear hSw; go_simp; try with_reducible rfl)
        (try simp only [Act.put, List.getElem_toArray, List.getElem_cons_succ, List.getElem_cons_zero, List.setIfInBounds_toArray, List.set_cons_zero, List.set_cons_succ])
        refine HT.takeP (i := 13) (v := ?_) rfl (by kernel_rfl) (by kernel_rfl) (by kernel_rfl) (by kernel_rfl) (fun _ _ _ h => h) (Or.inl ⟨by rfl, ?_⟩) hz5 (fun _ => trivial) ?_
        rotate_left
        · (intro v hSw; clear hSw; go_simp; try with_reducible rfl)
        (try simp only [Act.put, List.getElem_toArray, List.getElem_cons_succ, List.getElem_cons_zero, List.setIfInBounds_toArray, List.set_cons_zero, List.set_cons_succ])
        refine HT.one (i := 14) (by kernel_rfl) rfl (fun K hK => ?_)
        go_simp
        refine (show Calls Tryz.prog 23 #[.map (some w6.heap.size), .string ⟨p.toArray⟩] w5 _ from HAD.out).mono ?_
        rintro e w7 ⟨rfl, hms7, hu7⟩
        have hz7 : Upd (fun b => b = w6.heap.size) wd w7 := hz5.trans hu7
        (try dsimp only)
        refine hK.out _ _ hz7 trivial ?_
        clear hK K
        (try simp only [Act.put, List.getElem_toArray, List.getElem_cons_succ, List.getElem_cons_zero, List.setIfInBounds_toArray, List.set_cons_zero, List.set_cons_succ])
        have HMS := Lib.hid hms7
        clear hms7 HAD
        cases q with
        | true =>
          have HQ : Hid (false = rp) := Lib.hid (by rw [← hq3]; rfl)
          clear hq3
          refine HT.takeP (i := 15) (v := ?_) rfl (by kernel_rfl) (by kernel_rfl) (by kernel_rfl) (by kernel_rfl) (fun _ _ _ h => h) (Or.inl ⟨by rfl, ?_⟩) hz7 (fun _ => trivial) ?_
          rotate_left
          · (intro v hSw; clear hSw; go_simp; try with_reducible rfl)
          (try simp only [Act.put, List.getElem_toArray, List.getElem_cons_succ, List.getElem_cons_zero, List.setIfInBounds_toArray, List.set_cons_zero, List.set_cons_succ])
          refine HT.takeP (i := 16) (v := ?_) rfl (by kernel_rfl) (by kernel_rfl) (by kernel_rfl) (by kernel_rfl) (fun _ _ _ h => h) (Or.inl ⟨by rfl, ?_⟩) hz7 (fun _ => trivial) ?_
          rotate_left
          · (intro v hSw; clear hSw; go_simp; try with_reducible rfl)
          (try simp only [Act.put, List.getElem_toArray, List.getElem_cons_succ, List.getElem_cons_zero, List.setIfInBounds_toArray, List.set_cons_zero, List.set_cons_succ])
          have HQ2 := Lib.hid (show Rs.bad a = res from by rw [← HRES.out, ← HQ.out]; rfl)
          refine HT.one (i := 17) (by kernel_rfl) rfl (fun K hK => ?_)
          go_simp
          refine (show Calls Tryz.prog 83 #[nzA k a s n A l.length cA (some ⟨b, o, none⟩) ps.length cB, .bool true] w7 _ from (refuse w7 k a s n A l.length cA (some ⟨b, o, none⟩) ps.length cB true)).mono ?_
          rintro e wy ⟨rfl, hby⟩
          have HEND := Lib.hid (show StatP N lo w g res (m + 1) (panW a) wy from by rw [← HQ2.out]; exact ⟨rfl, HPAN.out _ _ hz7 hby⟩)
          clear hby
          exact ⟨rfl, HEND.out⟩
        | false =>
          have HQ : Hid (paB c.kn s (ps.take i ++ [p]) (ps.drop (i + 1)) = rp) := Lib.hid (by rw [← hq3]; rfl)
          clear hq3
          refine HT.takeP (i := 15) (v := ?_) rfl (by kernel_rfl) (by kernel_rfl) (by kernel_rfl) (by kernel_rfl) (fun _ _ _ h => h) (Or.inl ⟨by rfl, ?_⟩) hz7 (fun _ => trivial) ?_
          rotate_left
          · (intro v hSw; clear hSw; go_simp; try with_reducible rfl)
          (try simp only [Act.put, List.getElem_toArray, List.getElem_cons_succ, List.getElem_cons_zero, List.setIfInBounds_toArray, List.set_cons_zero, List.set_cons_succ])
          refine HT.takeP (i := 16) (v := ?_) rfl (by kernel_rfl) (by kernel_rfl) (by kernel_rfl) (by kernel_rfl) (fun _ _ _ h => h) (Or.inl ⟨by rfl, ?_⟩) hz7 (fun _ => trivial) ?_
          rotate_left
          · (intro v hSw; clear hSw; go_simp; try with_reducible rfl)
          (try simp only [Act.put, List.getElem_toArray, List.getElem_cons_succ, List.getElem_cons_zero, List.setIfInBounds_toArray, List.set_cons_zero, List.set_cons_succ])
          refine HT.one (i := 17) (by kernel_rfl) rfl (fun K hK => ?_)
          go_simp
          refine (show Calls Tryz.prog 83 #[nzA k a s n A l.length cA (some ⟨b, o, none⟩) ps.length cB, .bool false] w7 _ from (refuse w7 k a s n A l.length cA (some ⟨b, o, none⟩) ps.length cB false)).mono ?_
          rintro e w8 ⟨rfl, hb8⟩
          have hz8 : Upd (fun b => b = w6.heap.size) wd w8 := upd_then hz7 (Upd.of_below hb8 fun _ => False) fun _ h => h.elim
          have hnm : ∀ b, In2 (In2 N w wn) w6 wm b → ¬ b = w6.heap.size := fun b hb e => in2_ne hb HSM.out e.symm
          have HC8 := Lib.hid (HCd.out.far hz8 hnm); have HX8 := Lib.hid (HXd.out.upd hz8 HNM.out); have HU8 := Lib.hid (upd_then HUd.out hz8 fun b hb hlt => by omega); have HB8 := Lib.hid (below_low HBd.out hz8 fun b hb => by omega)
          have HM8 : Hid (MpS w8 w6.heap.size (i + 1) (fun t => (ps.take (i + 1)).contains t)) := Lib.hid (by
            have := HMS.out.upd (Upd.of_below hb8 fun _ => False) id
            rw [has_snoc] at this
            rw [HTS.out]; exact this)
          have HQ3 : Hid (paB c.kn s (ps.take (i + 1)) (ps.drop (i + 1)) = rp) := Lib.hid (by rw [HTS.out]; exact HQ.out)
          have HSZ8 := Lib.hid (show wm.heap.size ≤ w8.heap.size by have := hz8.size; have := HSZ.out; omega)
          clear hb8 hnm
          (try dsimp only)
          refine hK.out _ _ hz8 trivial ?_
          clear hK K
          (try simp only [Act.put, List.getElem_toArray, List.getElem_cons_succ, List.getElem_cons_zero, List.setIfInBounds_toArray, List.set_cons_zero, List.set_cons_succ])
          refine HT.done (by kernel_rfl) ?_
          clear hz8 hz7 hz5 hu7 hb5 hbb5 hZ0
          go_wp2_with fail
          go_roundw
          case rel => exact ⟨i + 1, by omega, by go_num, HC8, HM8, HU8, HB8, HX8, HQ3, HSZ8⟩
          case measure => simp [intOf]; omega
    · obtain rfl : i = ps.length := by omega
      have hq := HQ.out
      rw [List.drop_length] at hq
      have hrp : rp = true := hq.symm
      subst hrp
      have HRES : Hid (exR (exBs (fun t => ps.contains t) (callB c.kn) (l.take 1)) (.ok { c with kn := c.kn.put s (1, ps.length) }) = res) := Lib.hid HRES.out
      have HMI : Hid (MpS wr w6.heap.size ps.length (fun t => ps.contains t)) := Lib.hid (by have := HMI.out; rwa [List.take_length] at this)
      clear hq HQ HRP
      have HCU := Lib.hid (cut_ wr A l.length cA 1 HLC.out.1 HLC.out.2 (by decide))
      obtain ⟨⟨e0, e1, e2, e3, e4, e5⟩, z0, z1, z2, z3, z4, z5⟩ := Blk.c6 HX.out
      go_wp2_with fail
      refine (show Calls Tryz.prog 87 #[.slice A l.length cA, .int .i64 1] wr _ from HCU.out).mono ?_
      intro e w1 hcp
      obtain ⟨A1, c1, A2, c2, css1, css2, rfl, hL1, hS1, _, _, hb1⟩ := cut_parts hcp HL.out HS.out
      have HX1 := Lib.hid (HX.out.below hb1 HX.out.lt); have HC1 := Lib.hid (HC.out.below hb1); have HU1 := Lib.hid (upd_then HU.out (Upd.of_below hb1 fun _ => False) fun _ h => h.elim); have HBW1 := Lib.hid (HBE.out.trans (hb1.mono HBE.out.size))
      have hs1 := hb1.size
      have HEX := Lib.hid (exprs w0 w1 g c.kn _ _ _ A1 c1 (l.take 1) css1 HBW1.out hL1 hS1 (Nat.le_trans (by rw [List.length_take]; omega) hlm) (lenzs_take 1 HLZ.out).1 HC1.out.knp (isN_has (HMI.out.upd (Upd.of_below hb1 fun _ => False) id)))
      clear hcp hL1 hS1 hb1 HCU e0 e1 e2 e3 e4 e5 z0 z1 z2 z3 z4 z5
      obtain ⟨⟨e0, e1, e2, e3, e4, e5⟩, z0, z1, z2, z3, z4, z5⟩ := Blk.c6 HX1.out
      generalize exBs (fun t => ps.contains t) (callB c.kn) (l.take 1) = r1 at HEX HRES
      generalize (l.take 1).length = n1 at HEX
      generalize (l.drop 1).length = n2
      go_wp2_with fail
      refine (show Calls Tryz.prog 88 #[.pointer (some ⟨g, 0, none⟩), .func (.func 35) #[.map (some w6.heap.size)] #[], .slice A1 n1 c1] w1 _ from HEX.out).mono ?_
      intro e w2 h2
      cases r1 with
      | some a1 =>
        obtain ⟨rfl, hb2⟩ := h2
        have HEND := Lib.hid (show StatP N lo w g res (m + 1) (panW a1) w2 from by rw [← HRES.out]; exact ⟨rfl, upd_then HU1.out (Upd.of_below hb2 fun _ => False) fun _ h => h.elim⟩)
        clear hb2
        go_wp2_with fail
        exact ⟨rfl, HEND.out⟩
      | none =>
      obtain ⟨rfl, hb2⟩ := h2
      have HQ2 := Lib.hid (show Rs.ok { c with kn := c.kn.put s (1, ps.length) } = res from HRES.out)
      have hdr : Below w2.heap.size w2 w2.drew := Below.drew (Below.refl _ _)
      obtain ⟨wd, hwd⟩ : ∃ v, w2.drew = v := ⟨_, rfl⟩
      rw [hwd] at hdr
      have hb1d := hb2.trans (hdr.mono hb2.size)
      have HXd := Lib.hid (HX1.out.below hb1d HX1.out.lt); have HUd := Lib.hid (upd_then HU1.out (Upd.of_below hb1d fun _ => False) fun _ h => h.elim)
      obtain ⟨⟨vs, vp, vo, ve, kb, ob, hv⟩, hbd⟩ := HC1.out.below hb1d
      have hsd := hb1d.size
      obtain ⟨w9, hrun, hm9, ht9⟩ := hv.mp.put (s := s) hs (big_lt HM.out) (1, ps.length) (by show 1 ≤ 3; decide) HPS.out
      have hrun' : (Instr.mapUpdate 59 (.map (some kb)) (.string ⟨s.toArray⟩) (.agg #[.int .i64 1, .int .i64 (ps.length : Int)])).run Tryz.prog wd = .ok () w9 := hrun
      have hz9 : Upd (fun b => b = kb) wd w9 := turned_upd ht9 rfl
      have hZ0 : Upd (fun b => b = kb) wd wd := Upd.refl _ _
      have HVd := Lib.hid hv; have HBDD := Lib.hid hbd; have HM9 := Lib.hid hm9
      have HGK := Lib.hid hv.ne.1.1
      have hin : In2 N w wn kb := (hv.inN _ (by simp) kb rfl).elim (fun h => h.1) fun h => .inr (by have := HSM.out; omega)
      have HNK := Lib.hid (in2_ne hin HSN.out); have HIN := Lib.hid hin
      clear hb2 hdr hb1d hv hbd hrun hm9 ht9 hin e0 e1 e2 e3 e4 e5 z0 z1 z2 z3 z4 z5
      go_wp2_with fail
      refine HT.wp_region (Z := fun w' => Upd (fun b => b = kb) wd w') (S := fun _ => True) (st := []) (by kernel_rfl) ?_
      rw [hwd]
      clear hwd
      refine HT.takeP (i := 0) (v := ?_) rfl (by kernel_rfl) (by kernel_rfl) (by kernel_rfl) (by kernel_rfl) (fun _ _ _ h => h) (Or.inl ⟨by rfl, ?_⟩) hZ0 (fun _ => trivial) ?_
      rotate_left
      · (intro v hSw; have hA := HXd.out.upd hSw HNK.out; have hG := HVd.out.blk.upd hSw HGK.out; obtain ⟨⟨e0, e1, e2, e3, e4, e5⟩, z0, z1, z2, z3, z4, z5⟩ := Blk.c6 hA; obtain ⟨⟨c0, c1, c2, c3, c4, c5⟩, y0, y1, y2, y3, y4, y5⟩ := Blk.c6 hG; clear hSw hA hG; go_simp; try with_reducible rfl)
      (try simp only [Act.put, List.getElem_toArray, List.getElem_cons_succ, List.getElem_cons_zero, List.setIfInBounds_toArray, List.set_cons_zero, List.set_cons_succ])
      refine HT.takeP (i := 1) (v := ?_) rfl (by kernel_rfl) (by kernel_rfl) (by kernel_rfl) (by kernel_rfl) (fun _ _ _ h => h) (Or.inl ⟨by rfl, ?_⟩) hZ0 (fun _ => trivial) ?_
      rotate_left
      · (intro v hSw; have hA := HXd.out.upd hSw HNK.out; have hG := HVd.out.blk.upd hSw HGK.out; obtain ⟨⟨e0, e1, e2, e3, e4, e5⟩, z0, z1, z2, z3, z4, z5⟩ := Blk.c6 hA; obtain ⟨⟨c0, c1, c2, c3, c4, c5⟩, y0, y1, y2, y3, y4, y5⟩ := Blk.c6 hG; clear hSw hA hG; go_simp; try with_reducible rfl)
      (try simp only [Act.put, List.getElem_toArray, List.getElem_cons_succ, List.getElem_cons_zero, List.setIfInBounds_toArray, List.set_cons_zero, List.set_cons_succ])
      refine HT.takeP (i := 2) (v := ?_) rfl (by kernel_rfl) (by kernel_rfl) (by kernel_rfl) (by kernel_rfl) (fun _ _ _ h => h) (Or.inl ⟨by rfl, ?_⟩) hZ0 (fun _ => trivial) ?_
      rotate_left
      · (intro v hSw; have hA := HXd.out.upd hSw HNK.out; have hG := HVd.out.blk.upd hSw HGK.out; obtain ⟨⟨e0, e1, e2, e3, e4, e5⟩, z0, z1, z2, z3, z4, z5⟩ := Blk.c6 hA; obtain ⟨⟨c0, c1, c2, c3, c4, c5⟩, y0, y1, y2, y3, y4, y5⟩ := Blk.c6 hG; clear hSw hA hG; go_simp; try with_reducible rfl)
      (try simp only [Act.put, List.getElem_toArray, List.getElem_cons_succ, List.getElem_cons_zero, List.setIfInBounds_toArray, List.set_cons_zero, List.set_cons_succ])
      refine HT.takeP (i := 3) (v := ?_) rfl (by kernel_rfl) (by kernel_rfl) (by kernel_rfl) (by kernel_rfl) (fun _ _ _ h => h) (Or.inl ⟨by rfl, ?_⟩) hZ0 (fun _ => trivial) ?_
      rotate_left
      · (intro v hSw; have hA := HXd.out.upd hSw HNK.out; have hG := HVd.out.blk.upd hSw HGK.out; obtain ⟨⟨e0, e1, e2, e3, e4, e5⟩, z0, z1, z2, z3, z4, z5⟩ := Blk.c6 hA; obtain ⟨⟨c0, c1, c2, c3, c4, c5⟩, y0, y1, y2, y3, y4, y5⟩ := Blk.c6 hG; clear hSw hA hG; go_simp; try with_reducible rfl)
      (try simp only [Act.put, List.getElem_toArray, List.getElem_cons_succ, List.getElem_cons_zero, List.setIfInBounds_toArray, List.set_cons_zero, List.set_cons_succ])
      refine HT.takeP (i := 4) (v := ?_) rfl (by kernel_rfl) (by kernel_rfl) (by kernel_rfl) (by kernel_rfl) (fun _ _ _ h => h) (Or.inl ⟨by rfl, ?_⟩) hZ0 (fun _ => trivial) ?_
      rotate_left
      · (intro v hSw; have hA := HXd.out.upd hSw HNK.out; have hG := HVd.out.blk.upd hSw HGK.out; obtain ⟨⟨e0, e1, e2, e3, e4, e5⟩, z0, z1, z2, z3, z4, z5⟩ := Blk.c6 hA; obtain ⟨⟨c0, c1, c2, c3, c4, c5⟩, y0, y1, y2, y3, y4, y5⟩ := Blk.c6 hG; clear hSw hA hG; go_simp; try with_reducible rfl)
      (try simp only [Act.put, List.getElem_toArray, List.getElem_cons_succ, List.getElem_cons_zero, List.setIfInBounds_toArray, List.set_cons_zero, List.set_cons_succ])
      refine HT.takeP (i := 5) (v := ?_) rfl (by kernel_rfl) (by kernel_rfl) (by kernel_rfl) (by kernel_rfl) (fun _ _ _ h => h) (Or.inl ⟨by rfl, ?_⟩) hZ0 (fun _ => trivial) ?_
      rotate_left
      · (intro v hSw; have hA := HXd.out.upd hSw HNK.out; have hG := HVd.out.blk.upd hSw HGK.out; obtain ⟨⟨e0, e1, e2, e3, e4, e5⟩, z0, z1, z2, z3, z4, z5⟩ := Blk.c6 hA; obtain ⟨⟨c0, c1, c2, c3, c4, c5⟩, y0, y1, y2, y3, y4, y5⟩ := Blk.c6 hG; clear hSw hA hG; go_simp; try with_reducible rfl)
      (try simp only [Act.put, List.getElem_toArray, List.getElem_cons_succ, List.getElem_cons_zero, List.setIfInBounds_toArray, List.set_cons_zero, List.set_cons_succ])
      refine HT.takeP (i := 6) (v := ?_) rfl (by kernel_rfl) (by kernel_rfl) (by kernel_rfl) (by kernel_rfl) (fun _ _ _ h => h) (Or.inl ⟨by rfl, ?_⟩) hZ0 (fun _ => trivial) ?_
      rotate_left
      · (intro v hSw; have hA := HXd.out.upd hSw HNK.out; have hG := HVd.out.blk.upd hSw HGK.out; obtain ⟨⟨e0, e1, e2, e3, e4, e5⟩, z0, z1, z2, z3, z4, z5⟩ := Blk.c6 hA; obtain ⟨⟨c0, c1, c2, c3, c4, c5⟩, y0, y1, y2, y3, y4, y5⟩ := Blk.c6 hG; clear hSw hA hG; go_simp; try with_reducible rfl)
      (try simp only [Act.put, List.getElem_toArray, List.getElem_cons_succ, List.getElem_cons_zero, List.setIfInBounds_toArray, List.set_cons_zero, List.set_cons_succ])
      refine HT.takeP (i := 7) (v := ?_) rfl (by kernel_rfl) (by kernel_rfl) (by kernel_rfl) (by kernel_rfl) (fun _ _ _ h => h) (Or.inl ⟨by rfl, ?_⟩) hZ0 (fun _ => trivial) ?_
      rotate_left
      · (intro v hSw; have hA := HXd.out.upd hSw HNK.out; have hG := HVd.out.blk.upd hSw HGK.out; obtain ⟨⟨e0, e1, e2, e3, e4, e5⟩, z0, z1, z2, z3, z4, z5⟩ := Blk.c6 hA; obtain ⟨⟨c0, c1, c2, c3, c4, c5⟩, y0, y1, y2, y3, y4, y5⟩ := Blk.c6 hG; clear hSw hA hG; go_simp; try with_reducible rfl)
      (try simp only [Act.put, List.getElem_toArray, List.getElem_cons_succ, List.getElem_cons_zero, List.setIfInBounds_toArray, List.set_cons_zero, List.set_cons_succ])
      refine HT.takeP (i := 8) (v := ?_) rfl (by kernel_rfl) (by kernel_rfl) (by kernel_rfl) (by kernel_rfl) (fun _ _ _ h => h) (Or.inl ⟨by rfl, ?_⟩) hZ0 (fun _ => trivial) ?_
      rotate_left
      · (intro v hSw; have hA := HXd.out.upd hSw HNK.out; have hG := HVd.out.blk.upd hSw HGK.out; obtain ⟨⟨e0, e1, e2, e3, e4, e5⟩, z0, z1, z2, z3, z4, z5⟩ := Blk.c6 hA; obtain ⟨⟨c0, c1, c2, c3, c4, c5⟩, y0, y1, y2, y3, y4, y5⟩ := Blk.c6 hG; clear hSw hA hG; go_simp; try with_reducible rfl)
      (try simp only [Act.put, List.getElem_toArray, List.getElem_cons_succ, List.getElem_cons_zero, List.setIfInBounds_toArray, List.set_cons_zero, List.set_cons_succ])
      refine HT.takeP (i := 9) (v := ?_) rfl (by kernel_rfl) (by kernel_rfl) (by kernel_rfl) (by kernel_rfl) (fun _ _ _ h => h) (Or.inl ⟨by rfl, ?_⟩) hZ0 (fun _ => trivial) ?_
      rotate_left
      · (intro v hSw; have hA := HXd.out.upd hSw HNK.out; have hG := HVd.out.blk.upd hSw HGK.out; obtain ⟨⟨e0, e1, e2, e3, e4, e5⟩, z0, z1, z2, z3, z4, z5⟩ := Blk.c6 hA; obtain ⟨⟨c0, c1, c2, c3, c4, c5⟩, y0, y1, y2, y3, y4, y5⟩ := Blk.c6 hG; clear hSw hA hG; go_simp; try with_reducible rfl)
      (try simp only [Act.put, List.getElem_toArray, List.getElem_cons_succ, List.getElem_cons_zero, List.setIfInBounds_toArray, List.set_cons_zero, List.set_cons_succ])
      refine HT.one (i := 10) (by kernel_rfl) rfl (fun K hK => ?_)
      go_simp
      (try dsimp only)
      refine hK.out _ _ hz9 trivial ?_
      clear hK K
      (try simp only [Act.put, List.getElem_toArray, List.getElem_cons_succ, List.getElem_cons_zero, List.setIfInBounds_toArray, List.set_cons_zero, List.set_cons_succ])
      refine HT.done (by kernel_rfl) ?_
      have hfin := HVd.out.kn' hz9 HM9.out (Nat.le_succ m)
      have HEND := Lib.hid (show StatP N lo w g res (m + 1) (.returned (.tuple #[])) w9 from by
        rw [← HQ2.out]
        have hb := HBDD.out
        refine ⟨rfl, ⟨⟨vs, vp, vo, ve, kb, ob, hfin.mono fun b hb _ _ => ?_⟩, ⟨Nat.le_succ_of_le hb.1, Nat.le_succ_of_le hb.2.1, Nat.le_succ_of_le hb.2.2.1, Nat.le_succ_of_le hb.2.2.2⟩, HC1.out.enl⟩, ?_⟩
        · rcases hb with h | h
          · exact h.1.imp (fun h => h.1) fun h => by have := HSN.out; omega
          · exact .inr (by have := HSM.out; omega)
        · exact in2_upd HUd.out (hz9.mono fun b hb => hb ▸ HIN.out) (by have := HSN.out; omega))
      clear hfin hz9 hrun' hZ0
      go_wp2_with fail
      first | go_end0 | skip
      all_goals first | exact HEND.out | exact bodyPost_ret (results_none rfl _ _ _) rfl HEND.out
end Go.Proofs.YtpoepignpdfleaaGreatDoor.Nm
/- DERIVED. The program's Uses. By an AI agent. -/
namespace Go.Proofs.YtpoepignpdfleaaGreatDoor.Nm
open Go Go.ChangeShapes Go.WideShapes Go.ChangeAt Go.RowKit Lx Args Pa Sh
set_option linter.unusedVariables false
set_option linter.unusedSimpArgs false
def usN (k : Int) (s : Bs) (l : List Bs) : List Bs := if k = 1 ∧ ¬ s ∈ l then l ++ [s] else l
def usF : Tz → List Bs × Nat → Int ⊕ (List Bs × Nat)
  | .mk k _ s _ _ _, st => .inr (usN k s st.1, st.2 + 1)
mutual
theorem fold_us : ∀ (z : Tz) (l : List Bs) (c : Nat), foldT usF z (l, c) = .inr (usB l z, c + cntz z)
  | .mk k a s n ps q, l, c => by
    rw [foldT_mk]
    show foldTs usF q (usN k s l, c + 1) = _
    rw [fold_uss q]
    show _ = Sum.inr (usBs (usN k s l) q, c + (1 + cnts q))
    rw [Nat.add_assoc]
theorem fold_uss : ∀ (q : List Tz) (l : List Bs) (c : Nat), foldTs usF q (l, c) = .inr (usBs l q, c + cnts q)
  | [], l, c => by unfold foldTs usBs cnts; rfl
  | x :: q, l, c => by
    rw [foldTs_cons, fold_us x l c]
    show foldTs usF q (usB l x, c + cntz x) = _
    rw [fold_uss q]
    show _ = Sum.inr (usBs (usB l x) q, c + (cntz x + cnts q))
    rw [Nat.add_assoc]
end
/-- The names so far, in boxes bl and bs. -/
structure UsJ (lo bl bs : Nat) (N : Nat → Prop) (w : World) (st : List Bs × Nat) : Prop where
  ex : ∃ v sb, Blk w bl 24 #[v] ∧ w.ownsRow lo 9 1 v st.1.length (st.1.map strV) ∧ Blk w bs 51 #[.map (some sb)] ∧ MpS w sb st.2 (fun t => st.1.contains t) ∧ N bl ∧ N sb ∧ (∀ b, v.ownBlock = some b → N b) ∧
    v.ownBlock ≠ some bl ∧ v.ownBlock ≠ some bs ∧ v.ownBlock ≠ some sb ∧ sb ≠ bl ∧ sb ≠ bs
  ne : bl ≠ bs ∧ lo ≤ w.heap.size
  few : st.1.length ≤ st.2
theorem UsJ.far {lo bl bs : Nat} {N X : Nat → Prop} {w w' : World} {st : List Bs × Nat} (h : UsJ lo bl bs N w st) (hu : Upd X w w') (hX : ∀ b, X b → w.heap.size ≤ b) : UsJ lo bl bs N w' st := by
  obtain ⟨⟨v, sb, h1, h2, h3, h4, h5⟩, hn, hf⟩ := h
  refine ⟨⟨v, sb, h1.upd hu fun h => by have := hX _ h; have := h1.lt; omega, own_updV h2 hu fun b hb h => by have := hX _ h; have := own_atV h2 b hb; omega, h3.upd hu fun h => by have := hX _ h; have := h3.lt; omega, h4.upd hu fun h => by have := hX _ h; have := h4.lt; omega, h5⟩, ⟨hn.1, Nat.le_trans hn.2 hu.size⟩, hf⟩
theorem UsJ.mono {lo bl bs : Nat} {N N' : Nat → Prop} {w : World} {st : List Bs × Nat} (h : UsJ lo bl bs N w st) (hN : ∀ b, N b → b < w.heap.size → N' b) : UsJ lo bl bs N' w st := by
  obtain ⟨⟨v, sb, h1, h2, h3, h4, h5, h6, h7, h8⟩, hn, hf⟩ := h
  exact ⟨⟨v, sb, h1, h2, h3, h4, hN _ h5 h1.lt, hN _ h6 h4.lt, fun b hb => hN _ (h7 b hb) (own_atV h2 b hb).2, h8⟩, hn, hf⟩
set_option maxRecDepth 100000 in
set_option maxHeartbeats 4000000 in
theorem uses1 {lo bl bs : Nat} (N : Nat → Prop) (w : World) (st : List Bs × Nat) (k a : Int) (s : Bs) (n : Nat) (A : Option Addr) (la cA : Nat) (B : Option Addr) (lb cB : Nat) (hs : s.length ≤ maxLen) (hlim : st.2 + 1 ≤ 1099511627776) (hJ : UsJ lo bl bs N w st) :
    Calls Tryz.prog 22 #[nzA k a s n A la cA B lb cB, .pointer (some ⟨bs, 0, none⟩), .pointer (some ⟨bl, 0, none⟩)] w (VisP (UsJ lo bl bs) N w (.inr (usN k s st.1, st.2 + 1))) := by
  obtain ⟨i0, hi, hz⟩ := Option.map_eq_some_iff.1 infoS
  have hz0 := congrArg (·.1) hz; have hz1 := congrArg (·.2.1) hz; have hz2 := congrArg (·.2.2) hz
  have HI := Lib.hid hi; have HZ0 := Lib.hid hz0; have HZ1 := Lib.hid hz1; have HZ2 := Lib.hid hz2
  clear hi hz hz0 hz1 hz2
  obtain ⟨l, c⟩ := st
  obtain ⟨⟨v, sb, h1, h2, h3, h4, h5, h6, h7, h8, h9, h10, h11, h12⟩, ⟨hnb, hlo⟩, hf⟩ := hJ
  simp only at h2 h4 hf hlim ⊢
  obtain ⟨wn, hwn, hbn, hXn, hsn⟩ := a_box w (nB k a s n A la cA B lb cB)
  obtain ⟨⟨e0, e1, e2, e3, e4, e5⟩, z0, z1, z2, z3, z4, z5⟩ := Blk.c6 hXn
  have H1 := Lib.hid (h1.below hbn h1.lt); have H2 := Lib.hid (own_updV h2 (Upd.of_below hbn fun _ => False) fun _ _ h => h); have H3 := Lib.hid (h3.below hbn h3.lt); have H4 := Lib.hid (h4.upd (Upd.of_below hbn fun _ => False) id)
  have hbl := h1.lt; have hbs := h3.lt; have hsb := h4.lt
  have HNV := Lib.hid h7; have HOV := Lib.hid (fun b hb => (own_atV h2 b hb).2)
  have HX := Lib.hid hXn; have HW := Lib.hid hwn; have HBN := Lib.hid hbn; have HN5 := Lib.hid h5; have HN6 := Lib.hid h6; have HN8 := Lib.hid h8; have HN9 := Lib.hid h9; have HN10 := Lib.hid h10
  obtain ⟨ls, hls⟩ : ∃ ls, usN k s l = ls := ⟨_, rfl⟩
  rw [hls]
  have HLS := Lib.hid hls
  clear h1 h2 h3 h4 h5 h6 h7 h8 h9 h10 hwn hbn hXn hls
  have b1 : wn.cell? ⟨bs, 0, none⟩ = some (.map (some sb)) := H3.out.cell 0
  go_enter Tryz.func22, Tryz.ntmps22
  by_cases hk : k = 1
  · subst hk
    have HA := Lib.hid (add_ wn sb c _ H4.out (big_lt hlim) s hs)
    unfold AddP at HA
    obtain ⟨q, hq⟩ : ∃ q, l.contains s = q := ⟨_, rfl⟩
    have HQ := Lib.hid hq
    simp only [hq] at HA
    clear hq
    go_upto_region 1 with fail
    rw [HW.out]
    go_wp2_with fail
    refine (show Calls Tryz.prog 23 #[.map (some sb), .string ⟨s.toArray⟩] wn _ from HA.out).mono ?_
    rintro e w1 ⟨rfl, hm1, hu1⟩
    clear e0 e1 e2 e3 e4 e5 z0 z1 z2 z3 z4 z5 b1
    have hX1 := HX.out.upd hu1 (by omega)
    have H11 := Lib.hid (H1.out.upd hu1 (fun h => h11 h.symm)); have H21 := Lib.hid (own_updV H2.out hu1 fun b hb e => HN10.out (by rw [hb, e])); have H31 := Lib.hid (H3.out.upd hu1 (fun h => h12 h.symm)); have H41 := Lib.hid hm1
    have HU1 := Lib.hid (upd_then (Upd.of_below HBN.out N) hu1 fun b hb _ => hb ▸ HN6.out)
    have hs1 := hu1.size
    obtain ⟨⟨e0, e1, e2, e3, e4, e5⟩, z0, z1, z2, z3, z4, z5⟩ := Blk.c6 hX1
    clear hX1 hm1 hu1 HA
    cases q with
    | true =>
      have hin : s ∈ l := List.contains_iff_mem.1 HQ.out
      have hl : l = ls := by rw [← HLS.out]; unfold usN; rw [if_neg (fun h => h.2 hin)]
      have HEND := Lib.hid (show VisP (UsJ lo bl bs) N w (.inr (ls, c + 1)) (.returned (.tuple #[])) w1 from by
        rw [← hl]
        have hfe : (fun t => l.contains t || t == s) = fun t => l.contains t := by
          funext t
          by_cases h : t = s
          · subst h; rw [HQ.out]; simp
          · have : (t == s) = false := by simpa using h
            rw [this, Bool.or_false]
        refine ⟨rfl, ⟨⟨v, sb, H11.out, H21.out, H31.out, by have := H41.out; rw [hfe] at this; exact this, .inl HN5.out, .inl HN6.out, fun b hb => .inl (HNV.out b hb), HN8.out, HN9.out, HN10.out, h11, h12⟩, ⟨hnb, by omega⟩, Nat.le_succ_of_le hf⟩, HU1.out⟩)
      go_wp2_with fail
      first | go_end0 | skip
      all_goals first | exact HEND.out | exact bodyPost_ret (results_none rfl _ _ _) rfl HEND.out
    | false =>
      have hni : ¬ s ∈ l := fun h => by have := List.contains_iff_mem.2 h; rw [HQ.out] at this; cases this
      have hl : l ++ [s] = ls := by rw [← HLS.out]; unfold usN; rw [if_pos ⟨rfl, hni⟩]
      have HL := Lib.hid hl
      have c0 : w1.cell? ⟨bl, 0, none⟩ = some v := H11.out.cell 0
      obtain ⟨w2, hw2⟩ : ∃ w2, w1.alloc (.cells #[.string ⟨s.toArray⟩] 9) = w2 := ⟨_, rfl⟩
      have hb2 : Below w1.heap.size w1 w2 := by rw [← hw2]; exact (Below.refl _ _).alloc (Nat.le_refl _) _
      have hL2 : Lies w2 (some ⟨w1.heap.size, 0, none⟩) [strV s] := by rw [← hw2]; exact lies_full _ _ [strV s]
      have ho2 : w2.ownsRow lo 9 1 v l.length (l.map strV) := own_updV H21.out (Upd.of_below hb2 fun _ => False) fun _ _ h => h
      have hlo2 : lo ≤ w2.heap.size := by have := hb2.size; omega
      have hll : l.length + 1 ≤ 1099511627776 := by omega
      have HW2 := Lib.hid hw2; have HB2 := Lib.hid hb2; have HL2 := Lib.hid hL2; have HO2 := Lib.hid ho2; have HLO2 := Lib.hid hlo2
      clear hw2 hb2 hL2 ho2 hlo2 hl hni
      go_wp2_with (at_builtin; rw [HW2.out]; refine wpList_where rfl _ _ 24 rfl lo 9 i0 (.string ⟨#[]⟩) 1 16 Tryz.underlying24 HI.out HZ0.out HZ1.out HZ2.out rfl (by decide) _ l.length _ rfl HO2.out ⟨w1.heap.size, 0, none⟩ 1 1 [strV s] rfl rfl HL2.out (by simp [strV, Value.oneCell']) (by unfold maxLen; omega) (by omega) HLO2.out (by decide) ?_; intro g8 c8 w8 hE; have HE8 := Lib.hid hE; have hu8 := (Upd.of_below HB2.out (fun b => v.ownBlock = some b)).grown hE.grown (fun k hk _ => hk); have hb8 := H11.out.upd hu8 HN8.out; clear hE c0; have c0 : w8.cell? ⟨bl, 0, none⟩ = some v := hb8.cell 0; have f0 := hb8.frozen 0; have hg8 := hb8.lt; have HU8 := Lib.hid hu8; have HB8 := Lib.hid hb8; clear hb8 hu8)
      have hat : g8 = w2.heap.size ∨ v.ownBlock = some g8 := by
        rcases HE8.out.at_ with h | h
        · exact .inr h.symm
        · exact .inl h
      have hs12 := HB2.out.size
      have hg8N : New N w g8 := by
        rcases hat with h | h
        · exact .inr (by omega)
        · exact .inl (HNV.out g8 h)
      have hne8 : ∀ b, b < w1.heap.size → v.ownBlock ≠ some b → g8 ≠ b := fun b hb hv e => by
        rcases hat with h | h
        · omega
        · rw [e] at h; exact hv h
      have hset := (Upd.refl (fun b => b = bl) w8).setCell (p := ⟨bl, 0, none⟩) (fun _ => rfl) (.slice (some ⟨g8, 0, none⟩) (l.length + 1) c8)
      have HEND := Lib.hid (show VisP (UsJ lo bl bs) N w (.inr (ls, c + 1)) (.returned (.tuple #[])) (w8.setCell ⟨bl, 0, none⟩ (.slice (some ⟨g8, 0, none⟩) (l.length + 1) c8)) from by
        rw [← HL.out]
        have hbl1 : bl < w1.heap.size := by omega
        have hbs1 : bs < w1.heap.size := by omega
        have hsb1 : sb < w1.heap.size := by omega
        refine ⟨rfl, ⟨⟨_, sb, HB8.out.set 0 _, ?_, (H31.out.upd HU8.out HN9.out).upd hset (Ne.symm hnb), ?_, .inl HN5.out, .inl HN6.out, fun b hb => by cases hb; exact hg8N, fun e => hne8 bl hbl1 HN8.out (by cases e; rfl), fun e => hne8 bs hbs1 HN9.out (by cases e; rfl), fun e => hne8 sb hsb1 HN10.out (by cases e; rfl), h11, h12⟩, ⟨hnb, ?_⟩, ?_⟩, ?_⟩
        · have := HE8.out.own
          refine own_updV (v := .slice (some ⟨g8, 0, none⟩) (l.length + 1) c8) ?_ hset fun b hb e => hne8 bl hbl1 HN8.out (by cases hb; exact e)
          show w8.ownsRow lo _ 1 _ (l ++ [s]).length ((l ++ [s]).map strV)
          rw [List.length_append, List.map_append]; exact this
        · have := H41.out
          rw [has_snoc] at this
          exact (this.upd HU8.out HN10.out).upd hset h11
        · have := HU8.out.size; have := hset.size; omega
        · show (l ++ [s]).length ≤ c + 1
          simp; omega
        · exact upd_then (upd_then HU1.out HU8.out fun b hb _ => HNV.out b hb) hset fun b hb _ => hb ▸ HN5.out)
      clear hat hg8N hne8 hset c0 f0
      go_wp2_with fail
      first | go_end0 | skip
      all_goals first | exact HEND.out | exact bodyPost_ret (results_none rfl _ _ _) rfl HEND.out
  · have hki : (k == 1) = false := by simp; omega
    have hl : l = ls := by rw [← HLS.out]; unfold usN; rw [if_neg (fun h => hk h.1)]
    have HEND := Lib.hid (show VisP (UsJ lo bl bs) N w (.inr (ls, c + 1)) (.returned (.tuple #[])) wn from by
      rw [← hl]
      exact ⟨rfl, ⟨⟨v, sb, H1.out, H2.out, H3.out, H4.out.mono (Nat.le_succ _), .inl HN5.out, .inl HN6.out, fun b hb => .inl (HNV.out b hb), HN8.out, HN9.out, HN10.out, h11, h12⟩, ⟨hnb, by omega⟩, Nat.le_succ_of_le hf⟩, Upd.of_below HBN.out N⟩)
    go_upto_region 1 with fail
    rw [HW.out]
    go_wp2_with fail
    first | go_end0 | skip
    all_goals first | exact HEND.out | exact bodyPost_ret (results_none rfl _ _ _) rfl HEND.out
/-- What Uses hands back. -/
def UsP (w : World) (l : List Bs) (e : Ending) (w' : World) : Prop := ∃ v, e = .returned v ∧ w'.ownsRow w.heap.size 9 1 v l.length (l.map strV) ∧ Below w.heap.size w w'
set_option maxRecDepth 100000 in
set_option maxHeartbeats 4000000 in
theorem uses (z : Tz) (hlz : lenz z) (hc : cntz z ≤ 1099511627776) (w : World) (k a : Int) (s : Bs) (n : Nat) (A : Option Addr) (la cA : Nat) (B : Option Addr) (lb cB : Nat) (hT : TIz w z (nzC k a s n A la cA B lb cB)) :
    Calls Tryz.prog 13 #[nzA k a s n A la cA B lb cB] w (UsP w (usB [] z)) := by
  obtain ⟨w1, hw1, hb1, hX1, hs1⟩ := a_box w (nB k a s n A la cA B lb cB)
  obtain ⟨w2, hw2⟩ : ∃ w2, w1.alloc (.cells #[] 9) = w2 := ⟨_, rfl⟩
  have hb2 : Below w1.heap.size w1 w2 := by rw [← hw2]; exact (Below.refl _ _).alloc (Nat.le_refl _) _
  have hs2 : w2.heap.size = w1.heap.size + 1 := by rw [← hw2]; simp
  have ho2 : w2.ownsRow w.heap.size 9 1 (.slice (some ⟨w1.heap.size, 0, none⟩) 0 0) 0 [] := by rw [← hw2]; exact World.ownsRow_made w1 #[] 0 hb1.size (by decide) (by simp)
  obtain ⟨w3, hw3⟩ : ∃ w3, w2.alloc (.map #[] 0) = w3 := ⟨_, rfl⟩
  have hb3 : Below w2.heap.size w2 w3 := by rw [← hw3]; exact (Below.refl _ _).alloc (Nat.le_refl _) _
  have hs3 : w3.heap.size = w2.heap.size + 1 := by rw [← hw3]; simp
  have hm3 : MpS w3 w2.heap.size 0 (fun _ => false) := by rw [← hw3]; exact MpS.made w2
  have hmk : (Instr.makeMap 51 none).run Tryz.prog w2 = .ok (.map (some w2.heap.size)) w3 := by rw [← hw3]; exact run_makeMap _ _
  obtain ⟨w4, hw4⟩ : ∃ w4, w3.alloc (.cells #[.slice (some ⟨w1.heap.size, 0, none⟩) 0 0] 24) = w4 := ⟨_, rfl⟩
  have hb4 : Below w3.heap.size w3 w4 := by rw [← hw4]; exact (Below.refl _ _).alloc (Nat.le_refl _) _
  have hs4 : w4.heap.size = w3.heap.size + 1 := by rw [← hw4]; simp
  have hL4 : Blk w4 w3.heap.size 24 #[.slice (some ⟨w1.heap.size, 0, none⟩) 0 0] := by rw [← hw4]; exact Blk.new _ _ _
  obtain ⟨w5, hw5⟩ : ∃ w5, w4.alloc (.cells #[.map (some w2.heap.size)] 51) = w5 := ⟨_, rfl⟩
  have hb5 : Below w4.heap.size w4 w5 := by rw [← hw5]; exact (Below.refl _ _).alloc (Nat.le_refl _) _
  have hS5 : Blk w5 (w3.heap.size + 1) 51 #[.map (some w2.heap.size)] := by rw [← hw5, ← hs4]; exact Blk.new _ _ _
  have hb35 := hb4.trans (hb5.mono hb4.size)
  have hb25 := hb3.trans (hb35.mono hb3.size)
  have hb15 := hb2.trans (hb25.mono hb2.size)
  have hb05 := hb1.trans (hb15.mono hb1.size)
  have hJ : UsJ w.heap.size w3.heap.size (w3.heap.size + 1) (fun b => w.heap.size + 1 ≤ b) w5 ([], 0) := by
    refine ⟨⟨_, w2.heap.size, hL4.below hb5 hL4.lt, own_updV ho2 (Upd.of_below hb25 fun _ => False) fun _ _ h => h, hS5, ?_, by omega, by omega, fun b hb => by cases hb; show w.heap.size + 1 ≤ w1.heap.size; omega, fun e => by have h : w1.heap.size = w3.heap.size := Option.some.inj e; omega, fun e => by have h : w1.heap.size = w3.heap.size + 1 := Option.some.inj e; omega, fun e => by have h : w1.heap.size = w2.heap.size := Option.some.inj e; omega, by omega, by omega⟩, ⟨by omega, by have := hb05.size; omega⟩, Nat.zero_le _⟩
    exact (show MpS w3 w2.heap.size 0 (fun t => ([] : List Bs).contains t) from hm3).upd (Upd.of_below hb35 fun _ => False) id
  have V : Vis w 22 (.pointer (some ⟨w3.heap.size + 1, 0, none⟩)) (.pointer (some ⟨w3.heap.size, 0, none⟩)) usF (UsJ w.heap.size w3.heap.size (w3.heap.size + 1)) (fun st => st.2) 1099511627776 := by
    refine ⟨fun z st st' h => by obtain ⟨k, a, s, n, ps, l⟩ := z; unfold usF at h; cases h; exact Nat.le_refl _, fun _ _ => by kernel_rfl, fun _ _ _ _ h hN => h.mono hN, fun _ _ _ _ h hb => h.far (Upd.of_below hb fun _ => False) fun _ h => h.elim, fun N v st z k a s n A la cA B lb cB hv hT hz hlim hJ => ?_⟩
    obtain ⟨k1, a1, s1, n1, ps, l1⟩ := z
    obtain ⟨rfl, rfl, rfl, rfl, rfl, rfl, _, _⟩ := tIz_parts hT
    exact uses1 N v st k a s n A l1.length cA B ps.length cB (lenz_parts hz).1 hlim hJ
  have HE := Lib.hid (each V (SizeOf.sizeOf z + 1) z (Nat.lt_succ_self _) _ w5 ([], 0) k a s n A la cA B lb cB hb05 hT hlz (fun b hb => by omega) (by show 0 + cntz z ≤ _; omega) hJ)
  rw [fold_us] at HE
  have HW1 := Lib.hid hw1; have HW4 := Lib.hid hw4; have HW5 := Lib.hid hw5; have HB5 := Lib.hid hb05
  have hX5 := hX1.below hb15 hX1.lt
  obtain ⟨⟨e0, e1, e2, e3, e4, e5⟩, z0, z1, z2, z3, z4, z5⟩ := Blk.c6 hX5
  generalize usB [] z = us at HE ⊢
  clear V hJ hX5 hX1 hb1 hb2 hb3 hb4 hb5 hL4 hS5 hb35 hb25 hb15 hb05 hm3 ho2 hs1 hs2 hs3 hs4 hT hlz hc hw4 hw5
  go_enter Tryz.func13, Tryz.ntmps13
  go_upto_region 2 with fail
  rw [HW4.out, HW5.out]
  clear hw1 hw2 hw3 hmk
  go_wp2_with fail
  refine (show Calls Tryz.prog 21 #[nzA k a s n A la cA B lb cB, .func (.func 22) #[] #[.pointer (some ⟨w3.heap.size + 1, 0, none⟩), .pointer (some ⟨w3.heap.size, 0, none⟩)]] w5 _ from HE.out).mono ?_
  rintro e w6 ⟨rfl, ⟨⟨v, sb, hL6, ho6, _⟩, _⟩, hu6⟩
  have c0 : w6.cell? ⟨w3.heap.size, 0, none⟩ = some v := hL6.cell 0
  have HO := Lib.hid ho6; have HB6 := Lib.hid (HB5.out.trans (hu6.below HB5.out.size fun b hb => by omega))
  clear hu6 hL6 ho6 e0 e1 e2 e3 e4 e5 z0 z1 z2 z3 z4 z5
  go_wp2_with fail
  go_ret
  exact ⟨v, rfl, HO.out, HB6.out⟩
end Go.Proofs.YtpoepignpdfleaaGreatDoor.Nm
