/- DERIVED. PaSs in one text. By an AI agent. -/
import Derived.Test.YtpoepignpdfleaaGreatDoorZ29
/- DERIVED. The contract of package parse's statement. By an AI agent. -/
namespace Go.Proofs.YtpoepignpdfleaaGreatDoor.Pa
open Go Go.ChangeShapes Go.WideShapes Go.ChangeAt Go.RowKit Lx Args
set_option linter.unusedVariables false
set_option linter.unusedSimpArgs false
attribute [local go_sem] fTk0 fTk1 fTk2
theorem r_secret {num : Bs → Nat × Nat} {d : Nat} {t : Tk} {r : List Tk} {o : Out} (hs : t.s = [115, 101, 99, 114, 101, 116]) (hk : 2 < t.k) (h : InK 6 t.at_ r = some o) : Rd num .stmt d (t :: r) o := by
  refine rd_eq (K := fun f => InK 6 t.at_ r) (by rw [h]; exact ev_now _) fun f => ?_
  have hi : ∀ b, isS b t = (t.s == b) := fun b => by unfold isS; simp [hk]
  rw [st_]
  rw [if_pos (show isS [115, 101, 99, 114, 101, 116] t = true by rw [hi, hs]; decide)]
theorem r_public {num : Bs → Nat × Nat} {d : Nat} {t : Tk} {r : List Tk} {o : Out} (hs : t.s = [112, 117, 98, 108, 105, 99]) (hk : 2 < t.k) (h : InK 7 t.at_ r = some o) : Rd num .stmt d (t :: r) o := by
  refine rd_eq (K := fun f => InK 7 t.at_ r) (by rw [h]; exact ev_now _) fun f => ?_
  have hi : ∀ b, isS b t = (t.s == b) := fun b => by unfold isS; simp [hk]
  rw [st_]
  rw [if_neg (show ¬ isS [115, 101, 99, 114, 101, 116] t = true by rw [hi, hs]; decide)]
  rw [if_pos (show isS [112, 117, 98, 108, 105, 99] t = true by rw [hi, hs]; decide)]
theorem r_out {num : Bs → Nat × Nat} {d : Nat} {t : Tk} {r : List Tk} {o : Out} (hs : t.s = [111, 117, 116]) (hk : 2 < t.k) (h : Ev (fun f => SetK num f 8 t.at_ d r) o) : Rd num .stmt d (t :: r) o := by
  refine rd_eq (K := fun f => SetK num f 8 t.at_ d r) h fun f => ?_
  have hi : ∀ b, isS b t = (t.s == b) := fun b => by unfold isS; simp [hk]
  rw [st_]
  rw [if_neg (show ¬ isS [115, 101, 99, 114, 101, 116] t = true by rw [hi, hs]; decide)]
  rw [if_neg (show ¬ isS [112, 117, 98, 108, 105, 99] t = true by rw [hi, hs]; decide)]
  rw [if_pos (show isS [111, 117, 116] t = true by rw [hi, hs]; decide)]
theorem r_show {num : Bs → Nat × Nat} {d : Nat} {t : Tk} {r : List Tk} {o : Out} (hs : t.s = [115, 104, 111, 119]) (hk : 2 < t.k) (h : Ev (fun f => SetK num f 9 t.at_ d r) o) : Rd num .stmt d (t :: r) o := by
  refine rd_eq (K := fun f => SetK num f 9 t.at_ d r) h fun f => ?_
  have hi : ∀ b, isS b t = (t.s == b) := fun b => by unfold isS; simp [hk]
  rw [st_]
  rw [if_neg (show ¬ isS [115, 101, 99, 114, 101, 116] t = true by rw [hi, hs]; decide)]
  rw [if_neg (show ¬ isS [112, 117, 98, 108, 105, 99] t = true by rw [hi, hs]; decide)]
  rw [if_neg (show ¬ isS [111, 117, 116] t = true by rw [hi, hs]; decide)]
  rw [if_pos (show isS [115, 104, 111, 119] t = true by rw [hi, hs]; decide)]
theorem r_fn {num : Bs → Nat × Nat} {d : Nat} {t : Tk} {r : List Tk} {o : Out} (hs : t.s = [102, 110]) (hk : 2 < t.k) (h : Ev (fun f => FnK num f t.at_ d r) o) : Rd num .stmt d (t :: r) o := by
  refine rd_eq (K := fun f => FnK num f t.at_ d r) h fun f => ?_
  have hi : ∀ b, isS b t = (t.s == b) := fun b => by unfold isS; simp [hk]
  rw [st_]
  rw [if_neg (show ¬ isS [115, 101, 99, 114, 101, 116] t = true by rw [hi, hs]; decide)]
  rw [if_neg (show ¬ isS [112, 117, 98, 108, 105, 99] t = true by rw [hi, hs]; decide)]
  rw [if_neg (show ¬ isS [111, 117, 116] t = true by rw [hi, hs]; decide)]
  rw [if_neg (show ¬ isS [115, 104, 111, 119] t = true by rw [hi, hs]; decide)]
  rw [if_pos (show isS [102, 110] t = true by rw [hi, hs]; decide)]
theorem r_other {num : Bs → Nat × Nat} {d : Nat} {t : Tk} {r : List Tk} {o : Out} (h0 : isS [115, 101, 99, 114, 101, 116] t = false) (h1 : isS [112, 117, 98, 108, 105, 99] t = false) (h2 : isS [111, 117, 116] t = false) (h3 : isS [115, 104, 111, 119] t = false) (h4 : isS [102, 110] t = false) (h : Rd num .inner 0 (t :: r) o) : Rd num .stmt d (t :: r) o :=
  rd_eq h fun f => by
    rw [st_, if_neg (by rw [h0]; decide), if_neg (by rw [h1]; decide), if_neg (by rw [h2]; decide), if_neg (by rw [h3]; decide), if_neg (by rw [h4]; decide)]
set_option maxRecDepth 100000 in
set_option maxHeartbeats 8000000 in
theorem st_secret (w : World) (bp : Nat) (t : Tk) (r : List Tk) (hp : PS w bp (t :: r) 0) (hg : Gt (t :: r)) (hs : t.s = [115, 101, 99, 114, 101, 116]) :
    Calls Tryz.prog 42 #[.pointer (some ⟨bp, 0, none⟩)] w (OutP w bp 0 (t :: r) (Rd numV .stmt 0 (t :: r))) := by
  have hlt := hp.lt
  obtain ⟨w0, hw0⟩ : ∃ w0, w.alloc (.cells #[.int .i64 0, .string ⟨#[]⟩, .int .u32 0, .int .i64 0, .slice none 0 0, .slice none 0 0] 26) = w0 := ⟨_, rfl⟩
  have hb0 : Below w.heap.size w w0 := by rw [← hw0]; exact (Below.refl _ _).alloc (Nat.le_refl _) _
  have hB : Blk w0 w.heap.size 26 #[.int .i64 0, .string ⟨#[]⟩, .int .u32 0, .int .i64 0, .slice none 0 0, .slice none 0 0] := by rw [← hw0]; exact Blk.new _ _ _
  have hk : 2 < t.k := okt_lit hg.hd (by rw [hs]; decide)
  have hn := next w0 bp 0 t r (hp.below hb0)
  rw [hs] at hn
  have HN := Lib.hid hn
  have HSE := Lib.hid fun (w' : World) (hb : Below w0.heap.size w0 w') => (show Calls Tryz.prog 60 #[.pointer (some ⟨bp, 0, none⟩), .int .i64 6] w' _ from inputs 6 w' bp 0 t r ((hp.below hb0).below hb) hg (by omega))
  have HU0 := Lib.hid (below_UB (bp := bp) hb0); have HB := Lib.hid hB; have HW := Lib.hid hw0
  have hlb := hB.lt
  clear hb0 hp hw0 hB hg hn
  go_enter Tryz.func42, Tryz.ntmps42
  go_wp2_with fail
  rw [HW.out]
  refine HN.out.mono ?_
  rintro e w1 ⟨rfl, hb1⟩
  have HL1 := Lib.hid (HSE.out w1 hb1)
  have HU1 := Lib.hid (HU0.out.trans (below_UB hb1)); have HX1 := Lib.hid (HB.out.below hb1 HB.out.lt)
  have h01 := hb1.size
  clear hb1 HSE
  go_wp2_with fail
  refine HL1.out.mono ?_
  rintro e w2 (⟨k, a, s, m, A, la, cA, B, lb, cB, x, r', rfl, hT, hR, hP, hG, hr, hU⟩ | ⟨a, er, rfl, hR, hU⟩)
  · have hX := HX1.out.upd hU (show ¬ w.heap.size = bp by omega)
    obtain ⟨⟨e0, e1, e2, e3, e4, e5⟩, z0, z1, z2, z3, z4, z5⟩ := Blk.c6 hX
    have HX := Lib.hid hX; have HT := Lib.hid hT; have HR := Lib.hid (r_secret (num := numV) (d := 0) hs hk hR); have HP := Lib.hid hP; have HG := Lib.hid hG; have HU := Lib.hid (HU1.out.trans hU)
    clear hX hT hR hP hG hU
    go_wp2_with fail
    exact bodyPost_ret (resNd rfl rfl (Blk.put6 HX.out _ _ _ _ _ _) rfl) rfl (out_ok hlt (by omega) HT.out HR.out HP.out HG.out hr HU.out)
  · have HR := Lib.hid (r_secret (num := numV) (d := 0) hs hk hR); have HU := Lib.hid (HU1.out.trans hU)
    clear hR hU
    go_wp2_with fail
    exact ⟨rfl, .inr ⟨_, _, rfl, HR.out, HU.out⟩⟩
set_option maxRecDepth 100000 in
set_option maxHeartbeats 8000000 in
theorem st_public (w : World) (bp : Nat) (t : Tk) (r : List Tk) (hp : PS w bp (t :: r) 0) (hg : Gt (t :: r)) (hs : t.s = [112, 117, 98, 108, 105, 99]) :
    Calls Tryz.prog 42 #[.pointer (some ⟨bp, 0, none⟩)] w (OutP w bp 0 (t :: r) (Rd numV .stmt 0 (t :: r))) := by
  have hlt := hp.lt
  obtain ⟨w0, hw0⟩ : ∃ w0, w.alloc (.cells #[.int .i64 0, .string ⟨#[]⟩, .int .u32 0, .int .i64 0, .slice none 0 0, .slice none 0 0] 26) = w0 := ⟨_, rfl⟩
  have hb0 : Below w.heap.size w w0 := by rw [← hw0]; exact (Below.refl _ _).alloc (Nat.le_refl _) _
  have hB : Blk w0 w.heap.size 26 #[.int .i64 0, .string ⟨#[]⟩, .int .u32 0, .int .i64 0, .slice none 0 0, .slice none 0 0] := by rw [← hw0]; exact Blk.new _ _ _
  have hk : 2 < t.k := okt_lit hg.hd (by rw [hs]; decide)
  have hn := next w0 bp 0 t r (hp.below hb0)
  rw [hs] at hn
  have HN := Lib.hid hn
  have HSE := Lib.hid fun (w' : World) (hb : Below w0.heap.size w0 w') => (show Calls Tryz.prog 60 #[.pointer (some ⟨bp, 0, none⟩), .int .i64 7] w' _ from inputs 7 w' bp 0 t r ((hp.below hb0).below hb) hg (by omega))
  have HU0 := Lib.hid (below_UB (bp := bp) hb0); have HB := Lib.hid hB; have HW := Lib.hid hw0
  have hlb := hB.lt
  clear hb0 hp hw0 hB hg hn
  go_enter Tryz.func42, Tryz.ntmps42
  go_wp2_with fail
  rw [HW.out]
  refine HN.out.mono ?_
  rintro e w1 ⟨rfl, hb1⟩
  have HL1 := Lib.hid (HSE.out w1 hb1)
  have HU1 := Lib.hid (HU0.out.trans (below_UB hb1)); have HX1 := Lib.hid (HB.out.below hb1 HB.out.lt)
  have h01 := hb1.size
  clear hb1 HSE
  go_wp2_with fail
  refine HL1.out.mono ?_
  rintro e w2 (⟨k, a, s, m, A, la, cA, B, lb, cB, x, r', rfl, hT, hR, hP, hG, hr, hU⟩ | ⟨a, er, rfl, hR, hU⟩)
  · have hX := HX1.out.upd hU (show ¬ w.heap.size = bp by omega)
    obtain ⟨⟨e0, e1, e2, e3, e4, e5⟩, z0, z1, z2, z3, z4, z5⟩ := Blk.c6 hX
    have HX := Lib.hid hX; have HT := Lib.hid hT; have HR := Lib.hid (r_public (num := numV) (d := 0) hs hk hR); have HP := Lib.hid hP; have HG := Lib.hid hG; have HU := Lib.hid (HU1.out.trans hU)
    clear hX hT hR hP hG hU
    go_wp2_with fail
    exact bodyPost_ret (resNd rfl rfl (Blk.put6 HX.out _ _ _ _ _ _) rfl) rfl (out_ok hlt (by omega) HT.out HR.out HP.out HG.out hr HU.out)
  · have HR := Lib.hid (r_public (num := numV) (d := 0) hs hk hR); have HU := Lib.hid (HU1.out.trans hU)
    clear hR hU
    go_wp2_with fail
    exact ⟨rfl, .inr ⟨_, _, rfl, HR.out, HU.out⟩⟩
set_option maxRecDepth 100000 in
set_option maxHeartbeats 8000000 in
theorem st_out (w : World) (bp : Nat) (t : Tk) (r : List Tk) (hp : PS w bp (t :: r) 0) (hg : Gt (t :: r)) (hs : t.s = [111, 117, 116]) :
    Calls Tryz.prog 42 #[.pointer (some ⟨bp, 0, none⟩)] w (OutP w bp 0 (t :: r) (Rd numV .stmt 0 (t :: r))) := by
  have hlt := hp.lt
  obtain ⟨w0, hw0⟩ : ∃ w0, w.alloc (.cells #[.int .i64 0, .string ⟨#[]⟩, .int .u32 0, .int .i64 0, .slice none 0 0, .slice none 0 0] 26) = w0 := ⟨_, rfl⟩
  have hb0 : Below w.heap.size w w0 := by rw [← hw0]; exact (Below.refl _ _).alloc (Nat.le_refl _) _
  have hB : Blk w0 w.heap.size 26 #[.int .i64 0, .string ⟨#[]⟩, .int .u32 0, .int .i64 0, .slice none 0 0, .slice none 0 0] := by rw [← hw0]; exact Blk.new _ _ _
  have hk : 2 < t.k := okt_lit hg.hd (by rw [hs]; decide)
  have hn := next w0 bp 0 t r (hp.below hb0)
  rw [hs] at hn
  have HN := Lib.hid hn
  have hgr := hg.tail (by omega)
  obtain ⟨t2, r2, hr2⟩ := hgr.cons
  have htk := fun (w' : World) (hb : Below w0.heap.size w0 w') => take w' bp 0 t r ((hp.below hb0).below hb) (by rw [hr2]; simp)
  have HTK := Lib.hid htk
  have HSE := Lib.hid fun (w' : World) (h : PS w' bp r 0) => (show Calls Tryz.prog 61 #[.pointer (some ⟨bp, 0, none⟩), .int .i64 8, .int .i64 (t.at_ : Int)] w' _ from set 8 t.at_ w' bp 0 r (by omega) h hgr)
  have HU0 := Lib.hid (below_UB (bp := bp) hb0); have HB := Lib.hid hB; have HW := Lib.hid hw0
  have hlb := hB.lt
  clear hb0 hp hw0 hB hg hn htk hgr hr2
  go_enter Tryz.func42, Tryz.ntmps42
  go_wp2_with fail
  rw [HW.out]
  refine HN.out.mono ?_
  rintro e wx ⟨rfl, hbx⟩
  have HT1 := Lib.hid (HTK.out wx hbx)
  have HUx := Lib.hid (HU0.out.trans (below_UB hbx)); have HXx := Lib.hid (HB.out.below hbx HB.out.lt)
  have h0x := hbx.size
  clear hbx HTK
  go_wp2_with fail
  refine HT1.out.mono ?_
  rintro e w1 ⟨rfl, hp1, hu1⟩
  have HL1 := Lib.hid (HSE.out w1 hp1)
  have HU1 := Lib.hid (HUx.out.trans hu1); have HX1 := Lib.hid (HXx.out.upd hu1 (by omega))
  have h01 := hu1.size
  clear hp1 hu1 HSE
  go_wp2_with fail
  refine HL1.out.mono ?_
  rintro e w2 (⟨k, a, s, m, A, la, cA, B, lb, cB, x, r', rfl, hT, hR, hP, hG, hr, hU⟩ | ⟨a, er, rfl, hR, hU⟩)
  · have hX := HX1.out.upd hU (show ¬ w.heap.size = bp by omega)
    obtain ⟨⟨e0, e1, e2, e3, e4, e5⟩, z0, z1, z2, z3, z4, z5⟩ := Blk.c6 hX
    have HX := Lib.hid hX; have HT := Lib.hid hT; have HR := Lib.hid (r_out (num := numV) (d := 0) hs hk hR); have HP := Lib.hid hP; have HG := Lib.hid hG; have HU := Lib.hid (HU1.out.trans hU)
    clear hX hT hR hP hG hU
    go_wp2_with fail
    exact bodyPost_ret (resNd rfl rfl (Blk.put6 HX.out _ _ _ _ _ _) rfl) rfl (out_ok hlt (by omega) HT.out HR.out HP.out HG.out (by simp only [List.length_cons]; omega) HU.out)
  · have HR := Lib.hid (r_out (num := numV) (d := 0) hs hk hR); have HU := Lib.hid (HU1.out.trans hU)
    clear hR hU
    go_wp2_with fail
    exact ⟨rfl, .inr ⟨_, _, rfl, HR.out, HU.out⟩⟩
set_option maxRecDepth 100000 in
set_option maxHeartbeats 8000000 in
theorem st_show (w : World) (bp : Nat) (t : Tk) (r : List Tk) (hp : PS w bp (t :: r) 0) (hg : Gt (t :: r)) (hs : t.s = [115, 104, 111, 119]) :
    Calls Tryz.prog 42 #[.pointer (some ⟨bp, 0, none⟩)] w (OutP w bp 0 (t :: r) (Rd numV .stmt 0 (t :: r))) := by
  have hlt := hp.lt
  obtain ⟨w0, hw0⟩ : ∃ w0, w.alloc (.cells #[.int .i64 0, .string ⟨#[]⟩, .int .u32 0, .int .i64 0, .slice none 0 0, .slice none 0 0] 26) = w0 := ⟨_, rfl⟩
  have hb0 : Below w.heap.size w w0 := by rw [← hw0]; exact (Below.refl _ _).alloc (Nat.le_refl _) _
  have hB : Blk w0 w.heap.size 26 #[.int .i64 0, .string ⟨#[]⟩, .int .u32 0, .int .i64 0, .slice none 0 0, .slice none 0 0] := by rw [← hw0]; exact Blk.new _ _ _
  have hk : 2 < t.k := okt_lit hg.hd (by rw [hs]; decide)
  have hn := next w0 bp 0 t r (hp.below hb0)
  rw [hs] at hn
  have HN := Lib.hid hn
  have hgr := hg.tail (by omega)
  obtain ⟨t2, r2, hr2⟩ := hgr.cons
  have htk := fun (w' : World) (hb : Below w0.heap.size w0 w') => take w' bp 0 t r ((hp.below hb0).below hb) (by rw [hr2]; simp)
  have HTK := Lib.hid htk
  have HSE := Lib.hid fun (w' : World) (h : PS w' bp r 0) => (show Calls Tryz.prog 61 #[.pointer (some ⟨bp, 0, none⟩), .int .i64 9, .int .i64 (t.at_ : Int)] w' _ from set 9 t.at_ w' bp 0 r (by omega) h hgr)
  have HU0 := Lib.hid (below_UB (bp := bp) hb0); have HB := Lib.hid hB; have HW := Lib.hid hw0
  have hlb := hB.lt
  clear hb0 hp hw0 hB hg hn htk hgr hr2
  go_enter Tryz.func42, Tryz.ntmps42
  go_wp2_with fail
  rw [HW.out]
  refine HN.out.mono ?_
  rintro e wx ⟨rfl, hbx⟩
  have HT1 := Lib.hid (HTK.out wx hbx)
  have HUx := Lib.hid (HU0.out.trans (below_UB hbx)); have HXx := Lib.hid (HB.out.below hbx HB.out.lt)
  have h0x := hbx.size
  clear hbx HTK
  go_wp2_with fail
  refine HT1.out.mono ?_
  rintro e w1 ⟨rfl, hp1, hu1⟩
  have HL1 := Lib.hid (HSE.out w1 hp1)
  have HU1 := Lib.hid (HUx.out.trans hu1); have HX1 := Lib.hid (HXx.out.upd hu1 (by omega))
  have h01 := hu1.size
  clear hp1 hu1 HSE
  go_wp2_with fail
  refine HL1.out.mono ?_
  rintro e w2 (⟨k, a, s, m, A, la, cA, B, lb, cB, x, r', rfl, hT, hR, hP, hG, hr, hU⟩ | ⟨a, er, rfl, hR, hU⟩)
  · have hX := HX1.out.upd hU (show ¬ w.heap.size = bp by omega)
    obtain ⟨⟨e0, e1, e2, e3, e4, e5⟩, z0, z1, z2, z3, z4, z5⟩ := Blk.c6 hX
    have HX := Lib.hid hX; have HT := Lib.hid hT; have HR := Lib.hid (r_show (num := numV) (d := 0) hs hk hR); have HP := Lib.hid hP; have HG := Lib.hid hG; have HU := Lib.hid (HU1.out.trans hU)
    clear hX hT hR hP hG hU
    go_wp2_with fail
    exact bodyPost_ret (resNd rfl rfl (Blk.put6 HX.out _ _ _ _ _ _) rfl) rfl (out_ok hlt (by omega) HT.out HR.out HP.out HG.out (by simp only [List.length_cons]; omega) HU.out)
  · have HR := Lib.hid (r_show (num := numV) (d := 0) hs hk hR); have HU := Lib.hid (HU1.out.trans hU)
    clear hR hU
    go_wp2_with fail
    exact ⟨rfl, .inr ⟨_, _, rfl, HR.out, HU.out⟩⟩
set_option maxRecDepth 100000 in
set_option maxHeartbeats 8000000 in
theorem st_fn (w : World) (bp : Nat) (t : Tk) (r : List Tk) (hp : PS w bp (t :: r) 0) (hg : Gt (t :: r)) (hs : t.s = [102, 110]) :
    Calls Tryz.prog 42 #[.pointer (some ⟨bp, 0, none⟩)] w (OutP w bp 0 (t :: r) (Rd numV .stmt 0 (t :: r))) := by
  have hlt := hp.lt
  obtain ⟨w0, hw0⟩ : ∃ w0, w.alloc (.cells #[.int .i64 0, .string ⟨#[]⟩, .int .u32 0, .int .i64 0, .slice none 0 0, .slice none 0 0] 26) = w0 := ⟨_, rfl⟩
  have hb0 : Below w.heap.size w w0 := by rw [← hw0]; exact (Below.refl _ _).alloc (Nat.le_refl _) _
  have hB : Blk w0 w.heap.size 26 #[.int .i64 0, .string ⟨#[]⟩, .int .u32 0, .int .i64 0, .slice none 0 0, .slice none 0 0] := by rw [← hw0]; exact Blk.new _ _ _
  have hk : 2 < t.k := okt_lit hg.hd (by rw [hs]; decide)
  have hn := next w0 bp 0 t r (hp.below hb0)
  rw [hs] at hn
  have HN := Lib.hid hn
  have HSE := Lib.hid fun (w' : World) (hb : Below w0.heap.size w0 w') => function w' bp 0 t r (by omega) ((hp.below hb0).below hb) hg (by rw [isS_eq hg.hd (by decide), hs]; decide)
  have HU0 := Lib.hid (below_UB (bp := bp) hb0); have HB := Lib.hid hB; have HW := Lib.hid hw0
  have hlb := hB.lt
  clear hb0 hp hw0 hB hg hn
  go_enter Tryz.func42, Tryz.ntmps42
  go_wp2_with fail
  rw [HW.out]
  refine HN.out.mono ?_
  rintro e w1 ⟨rfl, hb1⟩
  have HL1 := Lib.hid (HSE.out w1 hb1)
  have HU1 := Lib.hid (HU0.out.trans (below_UB hb1)); have HX1 := Lib.hid (HB.out.below hb1 HB.out.lt)
  have h01 := hb1.size
  clear hb1 HSE
  go_wp2_with fail
  refine HL1.out.mono ?_
  rintro e w2 (⟨k, a, s, m, A, la, cA, B, lb, cB, x, r', rfl, hT, hR, hP, hG, hr, hU⟩ | ⟨a, er, rfl, hR, hU⟩)
  · have hX := HX1.out.upd hU (show ¬ w.heap.size = bp by omega)
    obtain ⟨⟨e0, e1, e2, e3, e4, e5⟩, z0, z1, z2, z3, z4, z5⟩ := Blk.c6 hX
    have HX := Lib.hid hX; have HT := Lib.hid hT; have HR := Lib.hid (r_fn (num := numV) (d := 0) hs hk hR); have HP := Lib.hid hP; have HG := Lib.hid hG; have HU := Lib.hid (HU1.out.trans hU)
    clear hX hT hR hP hG hU
    go_wp2_with fail
    exact bodyPost_ret (resNd rfl rfl (Blk.put6 HX.out _ _ _ _ _ _) rfl) rfl (out_ok hlt (by omega) HT.out HR.out HP.out HG.out hr HU.out)
  · have HR := Lib.hid (r_fn (num := numV) (d := 0) hs hk hR); have HU := Lib.hid (HU1.out.trans hU)
    clear hR hU
    go_wp2_with fail
    exact ⟨rfl, .inr ⟨_, _, rfl, HR.out, HU.out⟩⟩
set_option maxRecDepth 100000 in
set_option maxHeartbeats 8000000 in
theorem st_other (w : World) (bp : Nat) (t : Tk) (r : List Tk) (hp : PS w bp (t :: r) 0) (hg : Gt (t :: r)) (h0 : isS [115, 101, 99, 114, 101, 116] t = false) (h1 : isS [112, 117, 98, 108, 105, 99] t = false) (h2 : isS [111, 117, 116] t = false) (h3 : isS [115, 104, 111, 119] t = false) (h4 : isS [102, 110] t = false) :
    Calls Tryz.prog 42 #[.pointer (some ⟨bp, 0, none⟩)] w (OutP w bp 0 (t :: r) (Rd numV .stmt 0 (t :: r))) := by
  have hlt := hp.lt
  obtain ⟨w0, hw0⟩ : ∃ w0, w.alloc (.cells #[.int .i64 0, .string ⟨#[]⟩, .int .u32 0, .int .i64 0, .slice none 0 0, .slice none 0 0] 26) = w0 := ⟨_, rfl⟩
  have hb0 : Below w.heap.size w w0 := by rw [← hw0]; exact (Below.refl _ _).alloc (Nat.le_refl _) _
  have hB : Blk w0 w.heap.size 26 #[.int .i64 0, .string ⟨#[]⟩, .int .u32 0, .int .i64 0, .slice none 0 0, .slice none 0 0] := by rw [← hw0]; exact Blk.new _ _ _
  have hq0 := h0; have hq1 := h1; have hq2 := h2; have hq3 := h3; have hq4 := h4
  rw [isS_eq hg.hd (by decide)] at hq0 hq1 hq2 hq3 hq4
  have HN := Lib.hid (next w0 bp 0 t r (hp.below hb0))
  have HHS := Lib.hid (show isS [115, 101, 99, 114, 101, 116] t = false ∧ isS [112, 117, 98, 108, 105, 99] t = false ∧ isS [111, 117, 116] t = false ∧ isS [115, 104, 111, 119] t = false ∧ isS [102, 110] t = false from ⟨h0, h1, h2, h3, h4⟩)
  have HSE := Lib.hid fun (w' : World) (hb : Below w0.heap.size w0 w') => inn (t :: r).length w' bp 0 (t :: r) (Nat.le_refl _) (by omega) ((hp.below hb0).below hb) hg
  have HU0 := Lib.hid (below_UB (bp := bp) hb0); have HB := Lib.hid hB; have HW := Lib.hid hw0
  have hlb := hB.lt
  clear hb0 hp hw0 hB hg h0 h1 h2 h3 h4
  go_enter Tryz.func42, Tryz.ntmps42
  go_wp2_with fail
  rw [HW.out]
  refine HN.out.mono ?_
  rintro e w1 ⟨rfl, hb1⟩
  have HL1 := Lib.hid (HSE.out w1 hb1)
  have HU1 := Lib.hid (HU0.out.trans (below_UB hb1)); have HX1 := Lib.hid (HB.out.below hb1 HB.out.lt)
  have h01 := hb1.size
  clear hb1 HSE
  go_wp2_with fail
  refine HL1.out.mono ?_
  rintro e w2 (⟨k, a, s, m, A, la, cA, B, lb, cB, x, r', rfl, hT, hR, hP, hG, hr, hU⟩ | ⟨a, er, rfl, hR, hU⟩)
  · have hX := HX1.out.upd hU (show ¬ w.heap.size = bp by omega)
    obtain ⟨⟨e0, e1, e2, e3, e4, e5⟩, z0, z1, z2, z3, z4, z5⟩ := Blk.c6 hX
    have HX := Lib.hid hX; have HT := Lib.hid hT; have HR := Lib.hid (r_other (num := numV) (d := 0) HHS.out.1 HHS.out.2.1 HHS.out.2.2.1 HHS.out.2.2.2.1 HHS.out.2.2.2.2 hR); have HP := Lib.hid hP; have HG := Lib.hid hG; have HU := Lib.hid (HU1.out.trans hU)
    clear hX hT hR hP hG hU
    go_wp2_with fail
    exact bodyPost_ret (resNd rfl rfl (Blk.put6 HX.out _ _ _ _ _ _) rfl) rfl (out_ok hlt (by omega) HT.out HR.out HP.out HG.out hr HU.out)
  · have HR := Lib.hid (r_other (num := numV) (d := 0) HHS.out.1 HHS.out.2.1 HHS.out.2.2.1 HHS.out.2.2.2.1 HHS.out.2.2.2.2 hR); have HU := Lib.hid (HU1.out.trans hU)
    clear hR hU
    go_wp2_with fail
    exact ⟨rfl, .inr ⟨_, _, rfl, HR.out, HU.out⟩⟩
theorem statement (w : World) (bp : Nat) (t : Tk) (r : List Tk) (hp : PS w bp (t :: r) 0) (hg : Gt (t :: r)) :
    Calls Tryz.prog 42 #[.pointer (some ⟨bp, 0, none⟩)] w (OutP w bp 0 (t :: r) (Rd numV .stmt 0 (t :: r))) := by
  by_cases h0 : t.s = [115, 101, 99, 114, 101, 116]
  · exact st_secret w bp t r hp hg h0
  by_cases h1 : t.s = [112, 117, 98, 108, 105, 99]
  · exact st_public w bp t r hp hg h1
  by_cases h2 : t.s = [111, 117, 116]
  · exact st_out w bp t r hp hg h2
  by_cases h3 : t.s = [115, 104, 111, 119]
  · exact st_show w bp t r hp hg h3
  by_cases h4 : t.s = [102, 110]
  · exact st_fn w bp t r hp hg h4
  have hi : ∀ b, t.s ≠ b → isS b t = false := fun b h => by unfold isS; simp [h]
  exact st_other w bp t r hp hg (hi _ h0) (hi _ h1) (hi _ h2) (hi _ h3) (hi _ h4)
end Go.Proofs.YtpoepignpdfleaaGreatDoor.Pa
