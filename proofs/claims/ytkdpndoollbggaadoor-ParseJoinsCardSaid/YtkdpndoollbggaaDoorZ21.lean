/- DERIVED. PaSg in one text. By an AI agent. -/
import Derived.Test.YtkdpndoollbggaaDoorZ20
/- DERIVED. The contract of package parse's signed; of expr, whole. By an AI agent. -/
namespace Go.Proofs.YtkdpndoollbggaaDoor.Pa
open Go Go.ChangeShapes Go.WideShapes Go.ChangeAt Go.RowKit Lx Args
set_option linter.unusedVariables false
set_option linter.unusedSimpArgs false
attribute [local go_sem] fTk0 fTk1 fTk2
/-- signed, of at most n tokens. -/
def SgC (n : Nat) : Prop := ∀ (w : World) (bp d k : Nat) (l : List Tk), l.length ≤ n → 1 ≤ k → k ≤ 6 → d ≤ 60 → PS w bp l d → Gt l →
  Calls Tryd.prog 35 #[.pointer (some ⟨bp, 0, none⟩), .int .i64 (k : Int)] w (OutP w bp d l (Rd numV (.lev (k - 1)) d l))
theorem tIn_at {N : Nat → Prop} {w : World} {x : Tr} {k a s n A la cA B lb cB} (h : TIn N w x (ndC k a s n A la cA B lb cB)) : x.place = a := by
  cases x with
  | mk k1 a1 s1 n1 ps l =>
    unfold TIn at h
    obtain ⟨A1, cA1, B1, cB1, h1, h2⟩ := h
    unfold ndC at h1
    simp only [List.cons.injEq, Value.int.injEq, true_and] at h1
    exact (Int.ofNat.inj h1.2.2.2.1).symm
/-- A node of two parts. -/
theorem nd_two {N : Nat → Prop} {w1 : World} {x y : Tr} {cs ds : List Value} (hT : TIn N w1 x cs) (hU : TIn N w1 y ds) (hN : N w1.heap.size) (e : TypeId) (k a : Nat) (s : Bs) :
    TIn N (w1.alloc (.cells (cs ++ ds).toArray e)) (.mk k a s 0 [] [x, y]) (ndC k a s 0 (some ⟨w1.heap.size, 0, none⟩) 2 2 none 0 0) := by
  have hu : Upd (fun _ => False) w1 (w1.alloc (.cells (cs ++ ds).toArray e)) := (Upd.refl _ w1).alloc _
  have h2 : TsIn N (w1.alloc (.cells (cs ++ ds).toArray e)) [x, y] [cs, ds] := tsIn_app (tsIn_one (hT.upd hu fun _ _ h => h)) (tsIn_one (hU.upd hu fun _ _ h => h))
  unfold TIn
  refine ⟨_, _, none, 0, rfl, by simp, by simp, Lies.nil _ _, fun b o e => (by cases e), [cs, ds], ?_, fun b o e _ => ?_, h2⟩
  · have := lies_full w1 e (cs ++ ds)
    simpa using this
  · cases e; exact hN
/-- Between two signs: the part that has been read lies in box g. -/
structure SgI (w : World) (bp d k : Nat) (l : List Tk) (g : Nat) (W : World) (x : Tr) (kx ax nx : Nat) (sx : Bs) (A : Option Addr) (la cA : Nat) (B : Option Addr) (lb cB : Nat) (r : List Tk) : Prop where
  box : Blk W g 27 #[.int .i64 (kx : Int), .string ⟨sx.toArray⟩, .int .u32 (nx : Int), .int .i64 (ax : Int), .slice A la cA, .slice B lb cB]
  tr : TIn (fun b => w.heap.size + 1 ≤ b ∧ b ≠ g) W x (ndC kx ax sx nx A la cA B lb cB)
  rd : ∀ o, Ch numV (k - 1) d (6 - k) x r o → Rd numV (.lev (k - 1)) d l o
  ps : PS W bp r d
  gt : Gt r
  lt : r.length < l.length
  ub : UB bp w W
  res : Blk W w.heap.size 27 #[.int .i64 0, .string ⟨#[]⟩, .int .u32 0, .int .i64 0, .slice none 0 0, .slice none 0 0]
set_option maxRecDepth 100000 in
set_option maxHeartbeats 8000000 in
theorem signed_up {n : Nat} (HS : SgC n) (HU : UnC (n + 1)) : SgC (n + 1) := by
  intro w bp d k l hl hk1 hk6 hd hp hg
  have hlt := hp.lt
  obtain ⟨w0, hw0⟩ : ∃ w0, w.alloc (.cells #[.int .i64 0, .string ⟨#[]⟩, .int .u32 0, .int .i64 0, .slice none 0 0, .slice none 0 0] 27) = w0 := ⟨_, rfl⟩
  have hb0 : Below w.heap.size w w0 := by rw [← hw0]; exact (Below.refl _ _).alloc (Nat.le_refl _) _
  have hB : Blk w0 w.heap.size 27 #[.int .i64 0, .string ⟨#[]⟩, .int .u32 0, .int .i64 0, .slice none 0 0, .slice none 0 0] := by rw [← hw0]; exact Blk.new _ _ _
  have HU0 := Lib.hid (HU w0 bp d l hl hd (hp.below hb0) hg)
  have HB0 := Lib.hid hb0; have HB := Lib.hid hB; have HW := Lib.hid hw0
  have hlb := hB.lt
  clear hb0 hp hw0 hB hg
  go_enter Tryd.func35, Tryd.ntmps35
  go_wp2_with fail
  rw [HW.out]
  refine HU0.out.mono ?_
  rintro e w1 (⟨kx, ax, sx, nx, A, la, cA, B, lb, cB, x, r, rfl, hT, hR, hP, hG, hr, hU⟩ | ⟨a, er, rfl, hR, hU⟩)
  rotate_left
  · have HR := Lib.hid (lev_bad (n := k - 1) (m := 6 - k) (show Rd numV (.lev (k - 1 + (6 - k))) d l (.bad a er) by rw [show k - 1 + (6 - k) = 5 by omega]; exact hR) (by omega)); have HU := Lib.hid ((below_UB (bp := bp) HB0.out).trans hU)
    clear hR hU
    go_wp2_with fail
    exact ⟨rfl, .inr ⟨a, er, rfl, HR.out, HU.out⟩⟩
  have hs1 := hU.size
  have h1b : bp < w1.heap.size := hP.lt
  have HJ : Hid (SgI w bp d k l w1.heap.size (w1.alloc (.cells #[.int .i64 (kx : Int), .string ⟨sx.toArray⟩, .int .u32 (nx : Int), .int .i64 (ax : Int), .slice A la cA, .slice B lb cB] 27)) x kx ax nx sx A la cA B lb cB r) := Lib.hid
    ⟨Blk.new _ _ _, (hT.mono (N' := fun b => w.heap.size + 1 ≤ b ∧ b ≠ w1.heap.size) fun b hb hs => ⟨by omega, by omega⟩).upd ((Upd.refl (fun _ => False) w1).alloc _) (fun _ _ h => h),
      fun o h => ch_lev (6 - k) x r (by omega) (by rw [show k - 1 + (6 - k) = 5 by omega]; exact hR) h, hP.below ((Below.refl _ _).alloc (Nat.le_refl _) _), hG, hr, ((below_UB HB0.out).trans hU).alloc _, (HB.out.upd hU (by omega)).alloc _⟩
  clear hT hR hP hG hU
  go_wp2_with fail
  go_loopw [6, 7, 8, 9] (fun _ _ _ _ wr => ∃ x kx ax nx sx A la cA B lb cB r, Hid (SgI w bp d k l w1.heap.size wr x kx ax nx sx A la cA B lb cB r)) (fun _ _ _ _ wr => lenAt wr bp)
  case atStart => exact ⟨_, _, _, _, _, _, _, _, _, _, _, _, HJ⟩
  case round =>
    clear HJ
    obtain ⟨x, kx, ax, nx, sx, A, la, cA, B, lb, cB, r, HH⟩ := hrel
    obtain ⟨t, r', rfl⟩ := HH.out.gt.cons
    have HN := Lib.hid (next wr bp d t r' HH.out.ps)
    have hsg := sign
    obtain ⟨L, hL⟩ : ∃ L, levT t.s = L := ⟨_, rfl⟩
    obtain ⟨K, hK⟩ : ∃ K, kindT t.s = K := ⟨_, rfl⟩
    have HSG := Lib.hid fun (w' : World) => (show Calls Tryd.prog 45 #[.string ⟨t.s.toArray⟩] w' fun e w'' => e = .returned (.tuple #[.int .i64 (K : Int), .int .i64 (L : Int)]) ∧ w' = w'' by rw [← hL, ← hK]; exact sign w' t.s)
    have hL5 : L ≤ 5 := by rw [← hL]; exact levT_le _
    by_cases hlk : L < k
    · have q1 : decide ((L : Int) < (k : Int)) = true := by simp; omega
      have q2 : decide (L < k) = true := by simp; omega
      have hend : ∀ t' r0, t :: r' = t' :: r0 → ∀ i, k - 1 ≤ i → i < 5 → onS i t' = false := fun t' r0 e i h1 h2 => by
        cases e
        rw [onS_lev HH.out.gt.hd h2, hL]
        simp; omega
      have HEND := Lib.hid (HH.out.rd _ (ch_end (by omega) hend))
      clear hend
      go_wp2_with fail
      refine HN.out.mono ?_
      rintro e w2 ⟨rfl, hb2⟩
      have HB2 := Lib.hid hb2
      have hX := HH.out.box.below hb2 HH.out.box.lt
      have hY := HH.out.res.below hb2 HH.out.res.lt
      clear hb2
      go_wp2_with fail
      refine (HSG.out _).mono ?_
      rintro e w' ⟨rfl, rfl⟩
      obtain ⟨⟨e0, e1, e2, e3, e4, e5⟩, z0, z1, z2, z3, z4, z5⟩ := Blk.c6 hX
      obtain ⟨⟨g0, g1, g2, g3, g4, g5⟩, y0, y1, y2, y3, y4, y5⟩ := Blk.c6 hY
      have HY := Lib.hid hY
      clear hX hY
      go_wp2_with fail
      exact bodyPost_ret (resNd rfl rfl (Blk.put6 HY.out _ _ _ _ _ _) rfl) rfl (out_ok hlt (Nat.lt_succ_self _) ((HH.out.tr.mono (N' := fun b => w.heap.size + 1 ≤ b) fun b hb _ => hb.1).upd (Upd.of_below HB2.out fun _ => False) (fun _ _ h => h)) HEND.out (HH.out.ps.below HB2.out) HH.out.gt HH.out.lt (HH.out.ub.trans (below_UB HB2.out)))
    · have q1 : decide ((L : Int) < (k : Int)) = false := by simp; omega
      have q2 : decide (L < k) = false := by simp; omega
      obtain ⟨q, rfl⟩ : ∃ q, L = q + 1 := ⟨L - 1, by omega⟩
      have hk4 : t.k = 4 := lev_lit HH.out.gt.hd (by omega)
      have hgr := HH.out.gt.tail (by omega)
      obtain ⟨t2, r2, hr2⟩ := hgr.cons
      have hon : ∀ i, i < 5 → onS i t = decide (i = q) := fun i hi => by
        rw [onS_lev HH.out.gt.hd hi, hL]
        simp only [decide_eq_decide]; omega
      have hKq : K = if q = 3 then 4 else 3 := by
        rw [← hK]; unfold kindT; rw [hL]
        by_cases h3 : q = 3
        · subst h3; rfl
        · rw [if_neg (by omega), if_neg (by omega), if_neg h3]
      have HTK := Lib.hid fun (w' : World) (hb : Below wr.heap.size wr w') => take w' bp d t r' (HH.out.ps.below hb) (by rw [hr2]; simp)
      have hlr := HH.out.lt
      simp only [List.length_cons] at hlr
      have HSR := Lib.hid fun (w' : World) (hp : PS w' bp r' d) => (show Calls Tryd.prog 35 #[.pointer (some ⟨bp, 0, none⟩), .int .i64 ((q : Int) + 1 + 1)] w' (OutP w' bp d r' (Rd numV (.lev (q + 1)) d r')) from by
        have := HS w' bp d (q + 2) r' (by omega) (by omega) (by omega) hd hp hgr
        have e : ((q + 2 : Nat) : Int) = (q : Int) + 1 + 1 := by omega
        rw [e] at this
        exact this)
      have HON := Lib.hid hon; have HKQ := Lib.hid hKq
      have e1 : ((q + 1 : Nat) : Int) = (q : Int) + 1 := by omega
      rw [e1] at HSG q1
      clear hon hKq hr2 hgr hL hK e1
      go_wp2_with fail
      refine HN.out.mono ?_
      rintro e w2 ⟨rfl, hb2⟩
      have HB2 := Lib.hid hb2
      have HT2 := Lib.hid (HTK.out w2 hb2)
      clear hb2 HTK
      go_wp2_with fail
      refine (HSG.out _).mono ?_
      rintro e w' ⟨rfl, rfl⟩
      go_wp2_with fail
      refine HT2.out.mono ?_
      rintro e w3 ⟨rfl, hp3, hu3⟩
      have HS3 := Lib.hid (HSR.out w3 hp3)
      have HU3 := Lib.hid ((below_UB (bp := bp) HB2.out).trans hu3)
      clear hp3 hu3 HSR HT2
      go_wp2_with fail
      refine HS3.out.mono ?_
      rintro e w4 (⟨ky, ay, sy, ny, A', la', cA', B', lb', cB', y, r4, rfl, hT, hR, hP, hG, hr4, hU⟩ | ⟨a, er, rfl, hR, hU⟩)
      · have hu4 : UB bp wr w4 := HU3.out.trans hU
        have h1b' : ¬ w1.heap.size = bp := by omega
        have hX := HH.out.box.upd hu4 h1b'
        have hY := HH.out.res.upd hu4 (show ¬ w.heap.size = bp by omega)
        have hglt := hX.lt
        obtain ⟨⟨e0, e1, e2, e3, e4, e5⟩, z0, z1, z2, z3, z4, z5⟩ := Blk.c6 hX
        have HX := Lib.hid hX; have HY := Lib.hid hY; have HT := Lib.hid hT; have HR := Lib.hid hR; have HP := Lib.hid hP; have HG := Lib.hid hG; have HU4 := Lib.hid hu4
        clear hX hY hT hR hP hG hU hu4
        obtain ⟨w5, hw5⟩ : ∃ w5, w4.alloc (.cells #[.int .i64 (ky : Int), .string ⟨sy.toArray⟩, .int .u32 (ny : Int), .int .i64 (ay : Int), .slice A' la' cA', .slice B' lb' cB'] 27) = w5 := ⟨_, rfl⟩
        obtain ⟨w6, hw6⟩ : ∃ w6, w5.alloc (.cells #[.int .i64 (kx : Int), .string ⟨sx.toArray⟩, .int .u32 (nx : Int), .int .i64 (ax : Int), .slice A la cA, .slice B lb cB, .int .i64 (ky : Int), .string ⟨sy.toArray⟩, .int .u32 (ny : Int), .int .i64 (ay : Int), .slice A' la' cA', .slice B' lb' cB'] 27) = w6 := ⟨_, rfl⟩
        have hs5 : w5.heap.size = w4.heap.size + 1 := by rw [← hw5]; simp
        have hb5 : Below w4.heap.size w4 w5 := by rw [← hw5]; exact (Below.refl _ _).alloc (Nat.le_refl _) _
        have hb6 : Below w4.heap.size w4 w6 := by rw [← hw6]; exact hb5.alloc hb5.size _
        have hsr : wr.heap.size ≤ w3.heap.size := HU3.out.size
        have hxx : TIn (fun b => w.heap.size + 1 ≤ b ∧ b ≠ w1.heap.size) w5 x (ndC kx ax sx nx A la cA B lb cB) := (HH.out.tr.upd HU4.out fun b hb e => by omega).upd (Upd.of_below hb5 fun _ => False) (fun _ _ h => h)
        have hgr0 := HH.out.box.lt
        have hyy : TIn (fun b => w.heap.size + 1 ≤ b ∧ b ≠ w1.heap.size) w5 y (ndC ky ay sy ny A' la' cA' B' lb' cB') := (HT.out.mono (N' := fun b => w.heap.size + 1 ≤ b ∧ b ≠ w1.heap.size) fun b hb _ => ⟨by omega, by omega⟩).upd (Upd.of_below hb5 fun _ => False) (fun _ _ h => h)
        have htt : TIn (fun b => w.heap.size + 1 ≤ b ∧ b ≠ w1.heap.size) w6 (bin q x t.s [y]) (ndC K ax t.s 0 (some ⟨w4.heap.size + 1, 0, none⟩) 2 2 none 0 0) := by
          have h := nd_two hxx hyy (show w.heap.size + 1 ≤ w5.heap.size ∧ w5.heap.size ≠ w1.heap.size from ⟨by omega, by omega⟩) 27 K ax t.s
          unfold bin
          rw [← HKQ.out, tIn_at HH.out.tr, ← hw6, ← hs5]
          exact h
        have HN6 := Lib.hid (show Calls Tryd.prog 26 #[.int .i64 (K : Int), .string ⟨t.s.toArray⟩, .int .i64 (ax : Int), .slice (some ⟨w4.heap.size + 1, 0, none⟩) 2 2] w6 _ from node w6 K ax t.s (some ⟨w4.heap.size + 1, 0, none⟩) 2 2)
        have HB6 := Lib.hid hb6; have HTT := Lib.hid htt
        rw [← hw5] at hw6
        have HW6 := Lib.hid hw6
        clear hw5 hw6 hb5 hb6 hxx hyy htt
        go_wp2_with fail
        rw [HW6.out]
        refine HN6.out.mono ?_
        rintro e w7 ⟨rfl, hb7⟩
        have h46 := HB6.out.size
        have hX7 := (HX.out.below HB6.out HX.out.lt).below hb7 (by omega)
        have hY7 := (HY.out.below HB6.out HY.out.lt).below hb7 (by have := HY.out.lt; omega)
        obtain ⟨⟨g0, g1, g2, g3, g4, g5⟩, y0, y1, y2, y3, y4, y5⟩ := Blk.c6 hX7
        have HX7 := Lib.hid hX7; have HY7 := Lib.hid hY7; have HB7 := Lib.hid hb7
        clear hX7 hY7 hb7 e0 e1 e2 e3 e4 e5 z0 z1 z2 z3 z4 z5
        have hnw : w.heap.size ≠ w1.heap.size := by omega
        have HJ8 : Hid (SgI w bp d k l w1.heap.size (put6 w7 w1.heap.size (.int .i64 (K : Int)) (.string ⟨t.s.toArray⟩) (.int .u32 0) (.int .i64 (ax : Int)) (.slice (some ⟨w4.heap.size + 1, 0, none⟩) 2 2) (.slice none 0 0)) (bin q x t.s [y]) K ax 0 t.s (some ⟨w4.heap.size + 1, 0, none⟩) 2 2 none 0 0 r4) := Lib.hid
          ⟨Blk.put6 HX7.out _ _ _ _ _ _, (HTT.out.upd (Upd.of_below HB7.out fun _ => False) (fun _ _ h => h)).upd (put6_upd (X := fun b => b = w1.heap.size) (Upd.refl _ _) (fun _ => rfl) _ _ _ _ _ _) (fun b hb e => hb.2 e),
            fun o h => HH.out.rd o (ch_sign (q := q) (by omega) (by omega) (by omega) HON.out HR.out h),
            ((HP.out.below HB6.out).below HB7.out).far (put6_upd (X := fun b => b = w1.heap.size) (Upd.refl _ _) (fun _ => rfl) _ _ _ _ _ _) (fun b hb => by omega),
            HG.out, by omega, put6_upd (((HH.out.ub.trans HU4.out).trans (below_UB HB6.out)).trans (below_UB HB7.out)) (fun h => absurd h (by omega)) _ _ _ _ _ _, put6_far HY7.out hnw _ _ _ _ _ _⟩
        go_wp2_with fail
        go_roundw
        case rel => exact ⟨_, _, _, _, _, _, _, _, _, _, _, _, HJ8⟩
        case measure =>
          have e8 := PS.len HJ8.out.ps
          have er := PS.len HH.out.ps
          simp only [List.length_cons] at er
          show lenAt (put6 w7 w1.heap.size (.int .i64 (K : Int)) (.string ⟨t.s.toArray⟩) (.int .u32 0) (.int .i64 (ax : Int)) (.slice (some ⟨w4.heap.size + 1, 0, none⟩) 2 2) (.slice none 0 0)) bp < lenAt wr bp
          omega
      · have HR := Lib.hid (HH.out.rd _ (ch_sign_bad (q := q) (by omega) (by omega) (by omega) HON.out hR)); have HU := Lib.hid (HU3.out.trans hU)
        clear hR hU
        go_wp2_with fail
        exact ⟨rfl, .inr ⟨a, er, rfl, HR.out, HH.out.ub.trans HU.out⟩⟩
/-- expr and signed, of any number of tokens. -/
theorem expr_signed : ∀ n, ExC n ∧ SgC n
  | 0 => ⟨fun w bp d l hl _ _ hg => by
      obtain ⟨t, r, rfl⟩ := hg.cons
      simp at hl, fun w bp d k l hl _ _ _ _ hg => by
      obtain ⟨t, r, rfl⟩ := hg.cons
      simp at hl⟩
  | n + 1 => by
    obtain ⟨he, hs⟩ := expr_signed n
    have hs1 := signed_up hs (unary he (n + 1) (Nat.le_refl _))
    exact ⟨fun w bp d l hl hd hp hg => expr w bp d l hp fun w0 hp0 => hs1 w0 bp d 1 l hl (by omega) (by omega) hd hp0 hg, hs1⟩
theorem ex (n : Nat) : ExC n := (expr_signed n).1
end Go.Proofs.YtkdpndoollbggaaDoor.Pa
