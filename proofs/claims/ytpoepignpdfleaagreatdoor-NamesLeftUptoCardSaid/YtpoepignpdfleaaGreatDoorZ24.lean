/- DERIVED. PaUn in one text. By an AI agent. -/
import Derived.Test.YtpoepignpdfleaaGreatDoorZ23
import Derived.Test.YtpoepignpdfleaaGreatDoorZ10
import Derived.Deep.DeepCutAuto
import Derived.Deep.CutBlock
/- DERIVED. The contract of package parse's unary. By an AI agent. -/
namespace Go.Proofs.YtpoepignpdfleaaGreatDoor.Pa
open Go Go.ChangeShapes Go.WideShapes Go.ChangeAt Go.RowKit Lx Args
set_option linter.unusedVariables false
set_option linter.unusedSimpArgs false
attribute [local go_sem] fTk0 fTk1 fTk2
/-- unary, of at most n tokens. -/
def UnC (n : Nat) : Prop := ∀ (w : World) (bp d : Nat) (l : List Tk), l.length ≤ n → d ≤ 60 → PS w bp l d → Gt l →
  Calls Tryz.prog 115 #[.pointer (some ⟨bp, 0, none⟩)] w (OutP w bp d l (Rd numV (.lev 5) d l))
theorem within_u {n : Nat} (H : UnC n) (w : World) (bp d : Nat) (l : List Tk) (hn : l.length ≤ n) (hd : d ≤ 60) (hp : PS w bp l d) (hg : Gt l) :
    Calls Tryz.prog 101 #[.pointer (some ⟨bp, 0, none⟩), .func (.func 115) #[.pointer (some ⟨bp, 0, none⟩)] #[]] w (OutP w bp d l (Rd numV (.lev 5) (d + 1) l)) := by
  rcases Nat.lt_or_ge d 60 with h | h
  · exact within_unary _ w bp d l h hp fun w0 hp0 => H w0 bp (d + 1) l hn (by omega) hp0 hg
  · obtain rfl : d = 60 := by omega
    obtain ⟨t, r, rfl⟩ := hg.cons
    exact (within_deep _ w bp t r hp).mono fun e w' h => .inr ⟨_, _, h.1, r_deep5 (by omega), h.2⟩
/-- A token's box. -/
def K3 (g : Nat) (t : Tk) (w : World) : Prop := w.cell? ⟨g, 0, none⟩ = some (.int .i64 (t.k : Int)) ∧ w.cell? ⟨g, 1, none⟩ = some (.string ⟨t.s.toArray⟩) ∧ w.cell? ⟨g, 2, none⟩ = some (.int .i64 (t.at_ : Int))
theorem K3.of {g : Nat} {t : Tk} {w : World} {ty : TypeId} (h : Blk w g ty #[.int .i64 (t.k : Int), .string ⟨t.s.toArray⟩, .int .i64 (t.at_ : Int)]) : K3 g t w := ⟨h.cell 0, h.cell 1, h.cell 2⟩
/-- A node of one part. -/
theorem nd_one {lo : Nat} {w1 : World} {x : Tr} {cs : List Value} (hT : TIn (fun b => lo ≤ b) w1 x cs) (hlo : lo ≤ w1.heap.size) (e : TypeId) (k a : Nat) (s : Bs) :
    TIn (fun b => lo ≤ b) (w1.alloc (.cells cs.toArray e)) (.mk k a s 0 [] [x]) (ndC k a s 0 (some ⟨w1.heap.size, 0, none⟩) 1 1 none 0 0) :=
  (ArrT.first (e := e) hT hlo).node (by simp) k a 0 s
set_option maxRecDepth 100000 in
set_option maxHeartbeats 8000000 in
theorem unary_go {n : Nat} (H : UnC n) (w : World) (bp d : Nat) (t : Tk) (r : List Tk) (hn : r.length ≤ n) (hd : d ≤ 60) (hp : PS w bp (t :: r) d) (hg : Gt (t :: r)) (ht : (isS [126] t || isS [45] t) = true) :
    Calls Tryz.prog 115 #[.pointer (some ⟨bp, 0, none⟩)] w (OutP w bp d (t :: r) (Rd numV (.lev 5) d (t :: r))) := by
  have hlt := hp.lt
  have hk : t.k ≠ 0 := fun h => by rw [isS_low (by omega), isS_low (by omega)] at ht; cases ht
  have hgr := hg.tail hk
  obtain ⟨t2, r2, hr2⟩ := hgr.cons
  have hne : r ≠ [] := by rw [hr2]; simp
  obtain ⟨w0, hw0⟩ : ∃ w0, w.alloc (.cells #[.int .i64 0, .string ⟨#[]⟩, .int .u32 0, .int .i64 0, .slice none 0 0, .slice none 0 0] 26) = w0 := ⟨_, rfl⟩
  have hb0 : Below w.heap.size w w0 := by rw [← hw0]; exact (Below.refl _ _).alloc (Nat.le_refl _) _
  have hB : Blk w0 w.heap.size 26 #[.int .i64 0, .string ⟨#[]⟩, .int .u32 0, .int .i64 0, .slice none 0 0, .slice none 0 0] := by rw [← hw0]; exact Blk.new _ _ _
  have hp0 := hp.below hb0
  have HI1 := Lib.hid (is_ w0 bp d t r [126] hp0)
  have HI2 := Lib.hid fun (w' : World) (hb : Below w0.heap.size w0 w') => is_ w' bp d t r [45] (hp0.below hb)
  have HTK := Lib.hid fun (w' : World) (hb : Below w0.heap.size w0 w') => take w' bp d t r (hp0.below hb) hne
  have HB0 := Lib.hid hb0; have HB := Lib.hid hB; have HW := Lib.hid hw0; have HGR := Lib.hid hgr
  have hcase : ((t.s == [126]) = true) ∨ ((t.s == [126]) = false ∧ (t.s == [45]) = true) := by
    rw [isS_eq hg.hd (by decide), isS_eq hg.hd (by decide)] at ht
    cases h1 : (t.s == [126])
    · rw [h1] at ht; exact .inr ⟨rfl, by simpa using ht⟩
    · exact .inl rfl
  have HTT := Lib.hid ht
  clear hb0 hp hp0 hw0 hB hgr hr2 hg ht hk hne
  rcases hcase with hc | ⟨hc, hc2⟩
  · rw [hc] at HI1
    clear hc HI2
    go_enter Tryz.func115, Tryz.ntmps115
    go_wp2_with fail
    rw [HW.out]
    refine HI1.out.mono ?_
    rintro e w1 ⟨rfl, hb1⟩
    have HT1 := Lib.hid (HTK.out w1 hb1)
    have HU1 := Lib.hid ((below_UB (bp := bp) HB0.out).trans (below_UB hb1))
    have HBX := Lib.hid (HB.out.below hb1 HB.out.lt)
    clear hb1 HI1 HTK
    go_wp2_with fail
    refine HT1.out.mono ?_
    rintro e w2 ⟨rfl, hp2, hu2⟩
    have HP2 := Lib.hid hp2; have HU2 := Lib.hid (HU1.out.trans hu2)
    have HBX2 := Lib.hid (HBX.out.upd hu2 (by omega))
    clear hp2 hu2 HT1 HBX HU1
    go_upto_region 4 with fail
    obtain ⟨w3, hw3⟩ : ∃ w3, w2.alloc (.cells #[.int .i64 (t.k : Int), .string ⟨t.s.toArray⟩, .int .i64 (t.at_ : Int)] 76) = w3 := ⟨_, rfl⟩
    have hb3 : Below w2.heap.size w2 w3 := by rw [← hw3]; exact (Below.refl _ _).alloc (Nat.le_refl _) _
    have hbt : Blk w3 w2.heap.size 76 #[.int .i64 (t.k : Int), .string ⟨t.s.toArray⟩, .int .i64 (t.at_ : Int)] := by rw [← hw3]; exact Blk.new _ _ _
    have hZ0 : K3 w2.heap.size t w3.drew := K3.of hbt.drew
    rw [hw3]
    clear hw3
    refine HT.wp_region (Z := fun w' => K3 w2.heap.size t w') (S := fun _ => True) (st := []) (by kernel_rfl) ?_
    refine HT.takeP (i := 0) (v := ?_) rfl (by kernel_rfl) (by kernel_rfl) (by kernel_rfl) (by kernel_rfl) (fun _ _ _ h => h) (Or.inl ⟨by rfl, ?_⟩) hZ0 (fun _ => trivial) ?_
    rotate_left
    · (intro w hSw; obtain ⟨y0, y1, y2⟩ := hSw; go_simp; try with_reducible rfl)
    (try simp only [Act.put, List.getElem_toArray, List.getElem_cons_succ, List.getElem_cons_zero, List.setIfInBounds_toArray, List.set_cons_zero, List.set_cons_succ])
    refine HT.takeP (i := 1) (v := ?_) rfl (by kernel_rfl) (by kernel_rfl) (by kernel_rfl) (by kernel_rfl) (fun _ _ _ h => h) (Or.inl ⟨by rfl, ?_⟩) hZ0 (fun _ => trivial) ?_
    rotate_left
    · (intro w hSw; obtain ⟨y0, y1, y2⟩ := hSw; go_simp; try with_reducible rfl)
    (try simp only [Act.put, List.getElem_toArray, List.getElem_cons_succ, List.getElem_cons_zero, List.setIfInBounds_toArray, List.set_cons_zero, List.set_cons_succ])
    refine HT.takeP (i := 2) (v := ?_) rfl (by kernel_rfl) (by kernel_rfl) (by kernel_rfl) (by kernel_rfl) (fun _ _ _ h => h) (Or.inl ⟨by rfl, ?_⟩) hZ0 (fun _ => trivial) ?_
    rotate_left
    · (intro w hSw; obtain ⟨y0, y1, y2⟩ := hSw; go_simp; try with_reducible rfl)
    (try simp only [Act.put, List.getElem_toArray, List.getElem_cons_succ, List.getElem_cons_zero, List.setIfInBounds_toArray, List.set_cons_zero, List.set_cons_succ])
    refine HT.takeP (i := 3) (v := ?_) rfl (by kernel_rfl) (by kernel_rfl) (by kernel_rfl) (by kernel_rfl) (fun _ _ _ h => h) (Or.inl ⟨by rfl, ?_⟩) hZ0 (fun _ => trivial) ?_
    rotate_left
    · (intro w hSw; obtain ⟨y0, y1, y2⟩ := hSw; go_simp; try with_reducible rfl)
    (try simp only [Act.put, List.getElem_toArray, List.getElem_cons_succ, List.getElem_cons_zero, List.setIfInBounds_toArray, List.set_cons_zero, List.set_cons_succ])
    refine HT.takeP (i := 4) (v := ?_) rfl (by kernel_rfl) (by kernel_rfl) (by kernel_rfl) (by kernel_rfl) (fun _ _ _ h => h) (Or.inl ⟨by rfl, ?_⟩) hZ0 (fun _ => trivial) ?_
    rotate_left
    · (intro w hSw; obtain ⟨y0, y1, y2⟩ := hSw; go_simp; try with_reducible rfl)
    (try simp only [Act.put, List.getElem_toArray, List.getElem_cons_succ, List.getElem_cons_zero, List.setIfInBounds_toArray, List.set_cons_zero, List.set_cons_succ])
    refine HT.takeP (i := 5) (v := ?_) rfl (by kernel_rfl) (by kernel_rfl) (by kernel_rfl) (by kernel_rfl) (fun _ _ _ h => h) (Or.inl ⟨by rfl, ?_⟩) hZ0 (fun _ => trivial) ?_
    rotate_left
    · (intro w hSw; obtain ⟨y0, y1, y2⟩ := hSw; go_simp; try with_reducible rfl)
    (try simp only [Act.put, List.getElem_toArray, List.getElem_cons_succ, List.getElem_cons_zero, List.setIfInBounds_toArray, List.set_cons_zero, List.set_cons_succ])
    refine HT.takeP (i := 6) (v := ?_) rfl (by kernel_rfl) (by kernel_rfl) (by kernel_rfl) (by kernel_rfl) (fun _ _ _ h => h) (Or.inl ⟨by rfl, ?_⟩) hZ0 (fun _ => trivial) ?_
    rotate_left
    · (intro w hSw; obtain ⟨y0, y1, y2⟩ := hSw; go_simp; try with_reducible rfl)
    (try simp only [Act.put, List.getElem_toArray, List.getElem_cons_succ, List.getElem_cons_zero, List.setIfInBounds_toArray, List.set_cons_zero, List.set_cons_succ])
    have hp3 : PS w3.drew bp r d := ⟨(HP2.out.below hb3).ex⟩
    have HWI := Lib.hid (within_u H w3.drew bp d r hn hd hp3 HGR.out)
    have HU3 := Lib.hid ((HU2.out.trans (below_UB hb3)).drew)
    have HBT := Lib.hid hbt.drew
    have HBX3 := Lib.hid (HBX2.out.below hb3 HBX2.out.lt).drew
    have h33 : w.heap.size < w3.drew.heap.size := (HBX2.out.below hb3 HBX2.out.lt).lt
    have h23 : w2.heap.size < w3.drew.heap.size := hbt.lt
    have h02 : bp < w2.heap.size := HP2.out.lt
    clear hp3 hb3 hbt
    refine HT.one (i := 7) (by kernel_rfl) rfl (fun K hK => ?_)
    go_simp
    refine HWI.out.mono ?_
    rintro e w4 (⟨k, a, s, m, A, la, cA, B, lb, cB, x, r', rfl, hT, hR, hP, hG, hr, hU⟩ | ⟨a, er, rfl, hR, hU⟩)
    rotate_left
    · exact ⟨rfl, .inr ⟨a, er, rfl, r_un_bad hd HTT.out hR, HU3.out.trans hU⟩⟩
    have HS34 := Lib.hid hU.size
    have HBT4 := Lib.hid (HBT.out.upd hU (by omega))
    have HBX4 := Lib.hid (HBX3.out.upd hU (by omega))
    have HT4 := Lib.hid hT; have HR4 := Lib.hid hR; have HP4 := Lib.hid hP; have HG4 := Lib.hid hG; have HU4 := Lib.hid (HU3.out.trans hU)
    have hr1 : r'.length < (t :: r).length := by simp; omega
    clear hT hR hP hG hU hZ0
    dsimp only
    refine hK.out _ _ (K3.of HBT4.out) trivial ?_
    clear hK K
    (try simp only [Act.put, List.getElem_toArray, List.getElem_cons_succ, List.getElem_cons_zero, List.setIfInBounds_toArray, List.set_cons_zero, List.set_cons_succ])
    refine HT.one (i := 8) (by kernel_rfl) rfl (fun K hK => ?_)
    go_simp
    obtain ⟨w5, hw5⟩ : ∃ w5, w4.alloc (.cells #[.int .i64 (k : Int), .string ⟨s.toArray⟩, .int .u32 (m : Int), .int .i64 (a : Int), .slice A la cA, .slice B lb cB] 26) = w5 := ⟨_, rfl⟩
    have hb5 : Below w4.heap.size w4 w5 := by rw [← hw5]; exact (Below.refl _ _).alloc (Nat.le_refl _) _
    have hT5 : TIn (fun b => w3.drew.heap.size ≤ b) w5 (.mk 2 t.at_ t.s 0 [] [x]) (ndC 2 t.at_ t.s 0 (some ⟨w4.heap.size, 0, none⟩) 1 1 none 0 0) := by
      rw [← hw5]
      exact nd_one HT4.out HS34.out _ _ _ _
    refine hK.out _ _ (K3.of (HBT4.out.alloc _)) trivial ?_
    clear hK K
    (try simp only [Act.put, List.getElem_toArray, List.getElem_cons_succ, List.getElem_cons_zero, List.setIfInBounds_toArray, List.set_cons_zero, List.set_cons_succ])
    rw [hw5]
    have HB5 := Lib.hid hb5; have HT5 := Lib.hid hT5
    clear hw5 hb5 hT5
    have HN := Lib.hid (show Calls Tryz.prog 43 #[.int .i64 2, .string ⟨t.s.toArray⟩, .int .i64 (t.at_ : Int), .slice (some ⟨w4.heap.size, 0, none⟩) 1 1] w5 _ from node w5 2 t.at_ t.s (some ⟨w4.heap.size, 0, none⟩) 1 1)
    refine HT.one (i := 9) (by kernel_rfl) rfl (fun K hK => ?_)
    go_simp
    refine HN.out.mono ?_
    rintro e w6 ⟨rfl, hb6⟩
    have HB6 := Lib.hid hb6
    have HX6 := Lib.hid ((HBX4.out.below HB5.out HBX4.out.lt).below hb6 (Nat.lt_of_lt_of_le HBX4.out.lt HB5.out.size))
    have HK6 := Lib.hid ((HBT4.out.below HB5.out HBT4.out.lt).below hb6 (Nat.lt_of_lt_of_le HBT4.out.lt HB5.out.size))
    clear hb6
    dsimp only
    refine hK.out _ _ (K3.of HK6.out) trivial ?_
    clear hK K
    (try simp only [Act.put, List.getElem_toArray, List.getElem_cons_succ, List.getElem_cons_zero, List.setIfInBounds_toArray, List.set_cons_zero, List.set_cons_succ])
    obtain ⟨⟨e0, e1, e2, e3, e4, e5⟩, z0, z1, z2, z3, z4, z5⟩ := Blk.c6 HX6.out
    have hne26 : w2.heap.size ≠ w.heap.size := by have := HBX2.out.lt; omega
    have HEND := Lib.hid (out_ok (R := Rd numV (.lev 5) d (t :: r)) (l := t :: r) hlt h33 (TIn.far HT5.out (Upd.of_below HB6.out fun _ => False) (fun _ h => h.elim)) (r_un hd HTT.out HR4.out) ((HP4.out.below HB5.out).below HB6.out) HG4.out hr1 ((HU4.out.trans (below_UB HB5.out)).trans (below_UB HB6.out)))
    refine HT.one (i := 10) (by kernel_rfl) rfl (fun K hK => ?_)
    go_simp
    refine hK.out _ _ (K3.of (put6_far HK6.out hne26 _ _ _ _ _ _)) trivial ?_
    clear hK K
    refine HT.done (by kernel_rfl) ?_
    dsimp only [Exit.then]
    (try simp only [Act.put, List.getElem_toArray, List.getElem_cons_succ, List.getElem_cons_zero, List.setIfInBounds_toArray, List.set_cons_zero, List.set_cons_succ])
    go_wp2_with fail
    exact bodyPost_ret (resNd rfl rfl (Blk.put6 HX6.out _ _ _ _ _ _) rfl) rfl HEND.out
  · rw [hc] at HI1
    go_enter Tryz.func115, Tryz.ntmps115
    go_wp2_with fail
    rw [HW.out]
    refine HI1.out.mono ?_
    rintro e w9 ⟨rfl, hb9⟩
    have hi2 := HI2.out w9 hb9
    rw [hc2] at hi2
    have HI3 := Lib.hid hi2
    have HB9 := Lib.hid hb9
    clear hb9 hi2 hc hc2 HI2 HI1
    go_wp2_with fail
    refine HI3.out.mono ?_
    rintro e w1 ⟨rfl, hb1⟩
    have HT1 := Lib.hid (HTK.out w1 (HB9.out.trans (hb1.mono HB9.out.size)))
    have HU1 := Lib.hid (((below_UB (bp := bp) HB0.out).trans (below_UB HB9.out)).trans (below_UB hb1))
    have HBX := Lib.hid ((HB.out.below HB9.out HB.out.lt).below hb1 (Nat.lt_of_lt_of_le HB.out.lt HB9.out.size))
    clear hb1 HTK HI3 HB9
    go_wp2_with fail
    refine HT1.out.mono ?_
    rintro e w2 ⟨rfl, hp2, hu2⟩
    have HP2 := Lib.hid hp2; have HU2 := Lib.hid (HU1.out.trans hu2)
    have HBX2 := Lib.hid (HBX.out.upd hu2 (by omega))
    clear hp2 hu2 HT1 HBX HU1
    go_upto_region 4 with fail
    obtain ⟨w3, hw3⟩ : ∃ w3, w2.alloc (.cells #[.int .i64 (t.k : Int), .string ⟨t.s.toArray⟩, .int .i64 (t.at_ : Int)] 76) = w3 := ⟨_, rfl⟩
    have hb3 : Below w2.heap.size w2 w3 := by rw [← hw3]; exact (Below.refl _ _).alloc (Nat.le_refl _) _
    have hbt : Blk w3 w2.heap.size 76 #[.int .i64 (t.k : Int), .string ⟨t.s.toArray⟩, .int .i64 (t.at_ : Int)] := by rw [← hw3]; exact Blk.new _ _ _
    have hZ0 : K3 w2.heap.size t w3.drew := K3.of hbt.drew
    rw [hw3]
    clear hw3
    refine HT.wp_region (Z := fun w' => K3 w2.heap.size t w') (S := fun _ => True) (st := []) (by kernel_rfl) ?_
    refine HT.takeP (i := 0) (v := ?_) rfl (by kernel_rfl) (by kernel_rfl) (by kernel_rfl) (by kernel_rfl) (fun _ _ _ h => h) (Or.inl ⟨by rfl, ?_⟩) hZ0 (fun _ => trivial) ?_
    rotate_left
    · (intro w hSw; obtain ⟨y0, y1, y2⟩ := hSw; go_simp; try with_reducible rfl)
    (try simp only [Act.put, List.getElem_toArray, List.getElem_cons_succ, List.getElem_cons_zero, List.setIfInBounds_toArray, List.set_cons_zero, List.set_cons_succ])
    refine HT.takeP (i := 1) (v := ?_) rfl (by kernel_rfl) (by kernel_rfl) (by kernel_rfl) (by kernel_rfl) (fun _ _ _ h => h) (Or.inl ⟨by rfl, ?_⟩) hZ0 (fun _ => trivial) ?_
    rotate_left
    · (intro w hSw; obtain ⟨y0, y1, y2⟩ := hSw; go_simp; try with_reducible rfl)
    (try simp only [Act.put, List.getElem_toArray, List.getElem_cons_succ, List.getElem_cons_zero, List.setIfInBounds_toArray, List.set_cons_zero, List.set_cons_succ])
    refine HT.takeP (i := 2) (v := ?_) rfl (by kernel_rfl) (by kernel_rfl) (by kernel_rfl) (by kernel_rfl) (fun _ _ _ h => h) (Or.inl ⟨by rfl, ?_⟩) hZ0 (fun _ => trivial) ?_
    rotate_left
    · (intro w hSw; obtain ⟨y0, y1, y2⟩ := hSw; go_simp; try with_reducible rfl)
    (try simp only [Act.put, List.getElem_toArray, List.getElem_cons_succ, List.getElem_cons_zero, List.setIfInBounds_toArray, List.set_cons_zero, List.set_cons_succ])
    refine HT.takeP (i := 3) (v := ?_) rfl (by kernel_rfl) (by kernel_rfl) (by kernel_rfl) (by kernel_rfl) (fun _ _ _ h => h) (Or.inl ⟨by rfl, ?_⟩) hZ0 (fun _ => trivial) ?_
    rotate_left
    · (intro w hSw; obtain ⟨y0, y1, y2⟩ := hSw; go_simp; try with_reducible rfl)
    (try simp only [Act.put, List.getElem_toArray, List.getElem_cons_succ, List.getElem_cons_zero, List.setIfInBounds_toArray, List.set_cons_zero, List.set_cons_succ])
    refine HT.takeP (i := 4) (v := ?_) rfl (by kernel_rfl) (by kernel_rfl) (by kernel_rfl) (by kernel_rfl) (fun _ _ _ h => h) (Or.inl ⟨by rfl, ?_⟩) hZ0 (fun _ => trivial) ?_
    rotate_left
    · (intro w hSw; obtain ⟨y0, y1, y2⟩ := hSw; go_simp; try with_reducible rfl)
    (try simp only [Act.put, List.getElem_toArray, List.getElem_cons_succ, List.getElem_cons_zero, List.setIfInBounds_toArray, List.set_cons_zero, List.set_cons_succ])
    refine HT.takeP (i := 5) (v := ?_) rfl (by kernel_rfl) (by kernel_rfl) (by kernel_rfl) (by kernel_rfl) (fun _ _ _ h => h) (Or.inl ⟨by rfl, ?_⟩) hZ0 (fun _ => trivial) ?_
    rotate_left
    · (intro w hSw; obtain ⟨y0, y1, y2⟩ := hSw; go_simp; try with_reducible rfl)
    (try simp only [Act.put, List.getElem_toArray, List.getElem_cons_succ, List.getElem_cons_zero, List.setIfInBounds_toArray, List.set_cons_zero, List.set_cons_succ])
    refine HT.takeP (i := 6) (v := ?_) rfl (by kernel_rfl) (by kernel_rfl) (by kernel_rfl) (by kernel_rfl) (fun _ _ _ h => h) (Or.inl ⟨by rfl, ?_⟩) hZ0 (fun _ => trivial) ?_
    rotate_left
    · (intro w hSw; obtain ⟨y0, y1, y2⟩ := hSw; go_simp; try with_reducible rfl)
    (try simp only [Act.put, List.getElem_toArray, List.getElem_cons_succ, List.getElem_cons_zero, List.setIfInBounds_toArray, List.set_cons_zero, List.set_cons_succ])
    have hp3 : PS w3.drew bp r d := ⟨(HP2.out.below hb3).ex⟩
    have HWI := Lib.hid (within_u H w3.drew bp d r hn hd hp3 HGR.out)
    have HU3 := Lib.hid ((HU2.out.trans (below_UB hb3)).drew)
    have HBT := Lib.hid hbt.drew
    have HBX3 := Lib.hid (HBX2.out.below hb3 HBX2.out.lt).drew
    have h33 : w.heap.size < w3.drew.heap.size := (HBX2.out.below hb3 HBX2.out.lt).lt
    have h23 : w2.heap.size < w3.drew.heap.size := hbt.lt
    have h02 : bp < w2.heap.size := HP2.out.lt
    clear hp3 hb3 hbt
    refine HT.one (i := 7) (by kernel_rfl) rfl (fun K hK => ?_)
    go_simp
    refine HWI.out.mono ?_
    rintro e w4 (⟨k, a, s, m, A, la, cA, B, lb, cB, x, r', rfl, hT, hR, hP, hG, hr, hU⟩ | ⟨a, er, rfl, hR, hU⟩)
    rotate_left
    · exact ⟨rfl, .inr ⟨a, er, rfl, r_un_bad hd HTT.out hR, HU3.out.trans hU⟩⟩
    have HS34 := Lib.hid hU.size
    have HBT4 := Lib.hid (HBT.out.upd hU (by omega))
    have HBX4 := Lib.hid (HBX3.out.upd hU (by omega))
    have HT4 := Lib.hid hT; have HR4 := Lib.hid hR; have HP4 := Lib.hid hP; have HG4 := Lib.hid hG; have HU4 := Lib.hid (HU3.out.trans hU)
    have hr1 : r'.length < (t :: r).length := by simp; omega
    clear hT hR hP hG hU hZ0
    dsimp only
    refine hK.out _ _ (K3.of HBT4.out) trivial ?_
    clear hK K
    (try simp only [Act.put, List.getElem_toArray, List.getElem_cons_succ, List.getElem_cons_zero, List.setIfInBounds_toArray, List.set_cons_zero, List.set_cons_succ])
    refine HT.one (i := 8) (by kernel_rfl) rfl (fun K hK => ?_)
    go_simp
    obtain ⟨w5, hw5⟩ : ∃ w5, w4.alloc (.cells #[.int .i64 (k : Int), .string ⟨s.toArray⟩, .int .u32 (m : Int), .int .i64 (a : Int), .slice A la cA, .slice B lb cB] 26) = w5 := ⟨_, rfl⟩
    have hb5 : Below w4.heap.size w4 w5 := by rw [← hw5]; exact (Below.refl _ _).alloc (Nat.le_refl _) _
    have hT5 : TIn (fun b => w3.drew.heap.size ≤ b) w5 (.mk 2 t.at_ t.s 0 [] [x]) (ndC 2 t.at_ t.s 0 (some ⟨w4.heap.size, 0, none⟩) 1 1 none 0 0) := by
      rw [← hw5]
      exact nd_one HT4.out HS34.out _ _ _ _
    refine hK.out _ _ (K3.of (HBT4.out.alloc _)) trivial ?_
    clear hK K
    (try simp only [Act.put, List.getElem_toArray, List.getElem_cons_succ, List.getElem_cons_zero, List.setIfInBounds_toArray, List.set_cons_zero, List.set_cons_succ])
    rw [hw5]
    have HB5 := Lib.hid hb5; have HT5 := Lib.hid hT5
    clear hw5 hb5 hT5
    have HN := Lib.hid (show Calls Tryz.prog 43 #[.int .i64 2, .string ⟨t.s.toArray⟩, .int .i64 (t.at_ : Int), .slice (some ⟨w4.heap.size, 0, none⟩) 1 1] w5 _ from node w5 2 t.at_ t.s (some ⟨w4.heap.size, 0, none⟩) 1 1)
    refine HT.one (i := 9) (by kernel_rfl) rfl (fun K hK => ?_)
    go_simp
    refine HN.out.mono ?_
    rintro e w6 ⟨rfl, hb6⟩
    have HB6 := Lib.hid hb6
    have HX6 := Lib.hid ((HBX4.out.below HB5.out HBX4.out.lt).below hb6 (Nat.lt_of_lt_of_le HBX4.out.lt HB5.out.size))
    have HK6 := Lib.hid ((HBT4.out.below HB5.out HBT4.out.lt).below hb6 (Nat.lt_of_lt_of_le HBT4.out.lt HB5.out.size))
    clear hb6
    dsimp only
    refine hK.out _ _ (K3.of HK6.out) trivial ?_
    clear hK K
    (try simp only [Act.put, List.getElem_toArray, List.getElem_cons_succ, List.getElem_cons_zero, List.setIfInBounds_toArray, List.set_cons_zero, List.set_cons_succ])
    obtain ⟨⟨e0, e1, e2, e3, e4, e5⟩, z0, z1, z2, z3, z4, z5⟩ := Blk.c6 HX6.out
    have hne26 : w2.heap.size ≠ w.heap.size := by have := HBX2.out.lt; omega
    have HEND := Lib.hid (out_ok (R := Rd numV (.lev 5) d (t :: r)) (l := t :: r) hlt h33 (TIn.far HT5.out (Upd.of_below HB6.out fun _ => False) (fun _ h => h.elim)) (r_un hd HTT.out HR4.out) ((HP4.out.below HB5.out).below HB6.out) HG4.out hr1 ((HU4.out.trans (below_UB HB5.out)).trans (below_UB HB6.out)))
    refine HT.one (i := 10) (by kernel_rfl) rfl (fun K hK => ?_)
    go_simp
    refine hK.out _ _ (K3.of (put6_far HK6.out hne26 _ _ _ _ _ _)) trivial ?_
    clear hK K
    refine HT.done (by kernel_rfl) ?_
    dsimp only [Exit.then]
    (try simp only [Act.put, List.getElem_toArray, List.getElem_cons_succ, List.getElem_cons_zero, List.setIfInBounds_toArray, List.set_cons_zero, List.set_cons_succ])
    go_wp2_with fail
    exact bodyPost_ret (resNd rfl rfl (Blk.put6 HX6.out _ _ _ _ _ _) rfl) rfl HEND.out
end Go.Proofs.YtpoepignpdfleaaGreatDoor.Pa
