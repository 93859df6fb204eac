/- DERIVED. PaAr in one text. By an AI agent. -/
import Derived.Test.YtkdpndoollbggaaDoorZ15
/- DERIVED. The contract of package parse's arguments. By an AI agent. -/
namespace Go.Proofs.YtkdpndoollbggaaDoor.Pa
open Go Go.ChangeShapes Go.WideShapes Go.ChangeAt Go.RowKit Lx Args
set_option linter.unusedVariables false
set_option linter.unusedSimpArgs false
attribute [local go_sem] fTk0 fTk1 fTk2
/-- expr, of at most n tokens. -/
def ExC (n : Nat) : Prop := ∀ (w : World) (bp d : Nat) (l : List Tk), l.length ≤ n → d ≤ 60 → PS w bp l d → Gt l →
  Calls Tryd.prog 28 #[.pointer (some ⟨bp, 0, none⟩)] w (OutP w bp d l (Rd numV (.lev 0) d l))
theorem within_e {n : Nat} (H : ExC n) (w : World) (bp d : Nat) (l : List Tk) (hn : l.length ≤ n) (hd : d ≤ 60) (hp : PS w bp l d) (hg : Gt l) :
    Calls Tryd.prog 56 #[.pointer (some ⟨bp, 0, none⟩), .func (.func 28) #[.pointer (some ⟨bp, 0, none⟩)] #[]] w (OutP w bp d l (Rd numV (.lev 0) (d + 1) l)) := by
  rcases Nat.lt_or_ge d 60 with h | h
  · exact within_expr _ w bp d l h hp fun w0 hp0 => H w0 bp (d + 1) l hn (by omega) hp0 hg
  · obtain rfl : d = 60 := by omega
    obtain ⟨t, r, rfl⟩ := hg.cons
    exact (within_deep _ w bp t r hp).mono fun e w' h => .inr ⟨_, _, h.1, r_deep0 (by omega), h.2⟩
theorem ar_ok {num : Bs → Nat × Nat} {d a : Nat} {s : Bs} {r r1 r3 : List Tk} {x : Tr} {xs : List Tr} {v : Tk} (h : Rd num (.lev 0) (d + 1) r (.ok [x] r1)) (h2 : Rd num (.args [x]) (d + 1) r1 (.ok xs (v :: r3))) (hv : isS [41] v = true) : Ev (fun f => ArK num f d a s r) (.ok [.mk 5 a s 0 [] xs] r3) :=
  ev_bnd (K := fun f xs r'' => bnd (pF num f (.args xs) (d + 1) r'') fun ys r3 => must [41] r3 fun r4 => some (.ok [.mk 5 a s 0 [] ys] r4)) h
    (ev_bnd (K := fun _ ys r3 => must [41] r3 fun r4 => some (.ok [.mk 5 a s 0 [] ys] r4)) h2 (ev_eq (ev_now _) fun _ => must_y hv _))
theorem ar_end {num : Bs → Nat × Nat} {d a : Nat} {s : Bs} {r r1 r3 : List Tk} {x : Tr} {xs : List Tr} {v : Tk} (h : Rd num (.lev 0) (d + 1) r (.ok [x] r1)) (h2 : Rd num (.args [x]) (d + 1) r1 (.ok xs (v :: r3))) (hv : isS [41] v = false) : Ev (fun f => ArK num f d a s r) (.bad v.at_ 100) :=
  ev_bnd (K := fun f xs r'' => bnd (pF num f (.args xs) (d + 1) r'') fun ys r3 => must [41] r3 fun r4 => some (.ok [.mk 5 a s 0 [] ys] r4)) h
    (ev_bnd (K := fun _ ys r3 => must [41] r3 fun r4 => some (.ok [.mk 5 a s 0 [] ys] r4)) h2 (ev_eq (ev_now _) fun _ => must_n hv _))
theorem ar_bad1 {num : Bs → Nat × Nat} {d a p e : Nat} {s : Bs} {r r1 : List Tk} {x : Tr} (h : Rd num (.lev 0) (d + 1) r (.ok [x] r1)) (h2 : Rd num (.args [x]) (d + 1) r1 (.bad p e)) : Ev (fun f => ArK num f d a s r) (.bad p e) :=
  ev_bnd (K := fun f xs r'' => bnd (pF num f (.args xs) (d + 1) r'') fun ys r3 => must [41] r3 fun r4 => some (.ok [.mk 5 a s 0 [] ys] r4)) h
    (ev_bad (K := fun _ ys r3 => must [41] r3 fun r4 => some (.ok [.mk 5 a s 0 [] ys] r4)) h2)
theorem ar_bad {num : Bs → Nat × Nat} {d a p e : Nat} {s : Bs} {r : List Tk} (h : Rd num (.lev 0) (d + 1) r (.bad p e)) : Ev (fun f => ArK num f d a s r) (.bad p e) :=
  ev_bad (K := fun f xs r'' => bnd (pF num f (.args xs) (d + 1) r'') fun ys r3 => must [41] r3 fun r4 => some (.ok [.mk 5 a s 0 [] ys] r4)) h
/-- What arguments hands back. -/
def ArP (w : World) (bp d : Nat) (l : List Tk) (q : List Tk) (e : Ending) (w' : World) : Prop :=
  (∃ g c xs r, e = .returned (.slice (some ⟨g, 0, none⟩) xs.length c) ∧ ArrT 27 w.heap.size w' g c xs ∧ xs.length ≤ 4000 ∧ (∀ a s, Ev (fun f => ArK numV f d a s q) (.ok [.mk 5 a s 0 [] xs] r)) ∧ PS w' bp r d ∧ Gt r ∧ r.length < l.length ∧ UB bp w w') ∨
  (∃ a er, e = panV a er ∧ (∀ p s, Ev (fun f => ArK numV f d p s q) (.bad a er)) ∧ UB bp w w')
/-- Between two arguments. -/
structure ArI (w : World) (bp d : Nat) (q : List Tk) (x0 : Tr) (r1 : List Tk) (xs : List Tr) (l : List Tk) (g c : Nat) (W : World) : Prop where
  rd : ∀ o, Rd numV (.args xs) (d + 1) l o → Rd numV (.args [x0]) (d + 1) r1 o
  ps : PS W bp l d
  gt : Gt l
  lt : l.length < q.length
  arr : ArrT 27 w.heap.size W g c xs
  few : xs.length + l.length ≤ 4000
  ub : UB bp w W
theorem infoNd : (Tryd.prog.info? 27).map (fun i => (i.zero, i.size, i.bytes)) = some (some (.agg #[.int .i64 0, .string ⟨#[]⟩, .int .u32 0, .int .i64 0, .slice none 0 0, .slice none 0 0]), 6, 88) := by kernel_rfl
set_option maxRecDepth 100000 in
set_option maxHeartbeats 4000000 in
theorem arguments {n : Nat} (H : ExC n) (w : World) (bp d : Nat) (u : Tk) (q : List Tk) (hn : q.length ≤ n) (hd : d ≤ 60) (hp : PS w bp (u :: q) d) (hg : Gt (u :: q)) (hu : (u.s == [40]) = true) :
    Calls Tryd.prog 68 #[.pointer (some ⟨bp, 0, none⟩)] w (ArP w bp d (u :: q) q) := by
  have hlt := hp.lt
  obtain ⟨i0, hi, hz⟩ := Option.map_eq_some_iff.1 infoNd
  have hz0 := congrArg (·.1) hz; have hz1 := congrArg (·.2.1) hz; have hz2 := congrArg (·.2.2) hz
  have HI := Lib.hid hi; have HZ0 := Lib.hid hz0; have HZ1 := Lib.hid hz1; have HZ2 := Lib.hid hz2
  clear hi hz hz0 hz1 hz2
  have hk : u.k ≠ 0 := by
    have := okt_lit hg.hd (by rw [eq_of_beq hu]; decide)
    omega
  have hgq := hg.tail hk
  obtain ⟨t0, q0, hq0⟩ := hgq.cons
  have HM := Lib.hid (must_yes w bp d u q [40] hp hu (by rw [hq0]; simp))
  have HGQ := Lib.hid hgq
  clear hp hg hu hk hgq hq0
  go_enter Tryd.func68, Tryd.ntmps68
  go_wp2_with fail
  refine HM.out.mono ?_
  rintro e w1 ⟨rfl, hp1, hu1⟩
  have HE := Lib.hid (within_e H w1 bp d q hn hd hp1 HGQ.out)
  have HU1 := Lib.hid hu1
  clear hp1 hu1
  go_wp2_with fail
  refine HE.out.mono ?_
  rintro e w2 (⟨k, a, s, m, A, la, cA, B, lb, cB, x, r, rfl, hT, hR, hP, hG, hr, hU⟩ | ⟨a, er, rfl, hR, hU⟩)
  rotate_left
  · have HR := Lib.hid hR; have HU := Lib.hid (HU1.out.trans hU)
    clear hR hU
    go_wp2_with fail
    exact ⟨rfl, .inr ⟨a, er, rfl, fun p s => ar_bad HR.out, HU.out⟩⟩
  have hJ : ArI w bp d (u :: q) x r [x] r w2.heap.size 1 (w2.alloc (.cells #[.int .i64 (k : Int), .string ⟨s.toArray⟩, .int .u32 (m : Int), .int .i64 (a : Int), .slice A la cA, .slice B lb cB] 27)) :=
    ⟨fun o h => h, hP.below ((Below.refl _ _).alloc (Nat.le_refl _) _), hG, by simp; omega, ArrT.first (hT.up HU1.out.size) (HU1.out.trans hU).size, by have := HGQ.out.few; simp; omega, (HU1.out.trans hU).alloc _⟩
  have HJ := Lib.hid hJ; have HR0 := Lib.hid hR
  clear hJ hT hR hP hG hU
  go_wp2_with fail
  go_loopw [3] (fun vl wr => ∃ xs l' g c, vl = .slice (some ⟨g, 0, none⟩) xs.length c ∧ Hid (ArI w bp d (u :: q) x r xs l' g c wr)) (fun _ wr => lenAt wr bp)
  case atStart => exact ⟨[x], r, _, _, rfl, HJ⟩
  case round =>
    clear HJ
    obtain ⟨xs, l', g, c, rfl, HH⟩ := hrel
    obtain ⟨t, r', rfl⟩ := HH.out.gt.cons
    have HIS := Lib.hid (is_ wr bp d t r' [44] HH.out.ps)
    by_cases hc : (t.s == [44]) = true
    · rw [hc] at HIS
      have hk : t.k ≠ 0 := by
        have := okt_lit HH.out.gt.hd (by rw [eq_of_beq hc]; decide)
        omega
      have hon : isS [44] t = true := by rw [isS_eq HH.out.gt.hd (by decide)]; exact hc
      have hgr := HH.out.gt.tail hk
      obtain ⟨t2, r2, hr2⟩ := hgr.cons
      have hln : r'.length ≤ n := by have := HH.out.lt; simp at this; omega
      have HT := Lib.hid fun (w3 : World) (hb3 : Below wr.heap.size wr w3) => take w3 bp d t r' (HH.out.ps.below hb3) (by rw [hr2]; simp)
      have HGR := Lib.hid hgr
      clear hc hgr hr2
      go_wp2_with fail
      refine HIS.out.mono ?_
      rintro e w3 ⟨rfl, hb3⟩
      have HT3 := Lib.hid (HT.out w3 hb3)
      have HB3 := Lib.hid hb3
      clear hb3 HT
      go_wp2_with fail
      refine HT3.out.mono ?_
      rintro e w4 ⟨rfl, hp4, hu4⟩
      have HE4 := Lib.hid (within_e H w4 bp d r' hln hd hp4 HGR.out)
      have HU4 := Lib.hid ((below_UB (bp := bp) HB3.out).trans hu4)
      clear hp4 hu4
      go_wp2_with fail
      refine HE4.out.mono ?_
      rintro e w5 (⟨k', a', s', m', A', la', cA', B', lb', cB', x', r5, rfl, hT, hR, hP, hG, hr, hU⟩ | ⟨a', er, rfl, hR, hU⟩)
      · obtain ⟨css, how, hts⟩ := HH.out.arr
        have hu5 : UB bp wr w5 := HU4.out.trans hU
        have hT5 : TIn (fun b => wr.heap.size ≤ b) w5 x' (ndC k' a' s' m' A' la' cA' B' lb' cB') := hT.up HU4.out.size
        have HOA := Lib.hid (World.ownsRow.alloc (own_upd3 how hu5 (by have := (own_at how).1; omega)) (.cells #[.int .i64 (k' : Int), .string ⟨s'.toArray⟩, .int .u32 (m' : Int), .int .i64 (a' : Int), .slice A' la' cA', .slice B' lb' cB'] 27))
        have HLI := Lib.hid (lies_full w5 27 (ndC k' a' s' m' A' la' cA' B' lb' cB'))
        have hsz : w.heap.size ≤ w5.heap.size := Nat.le_trans HH.out.ub.size hu5.size
        have HBS := Lib.hid (show w.heap.size ≤ (w5.alloc (.cells #[.int .i64 (k' : Int), .string ⟨s'.toArray⟩, .int .u32 (m' : Int), .int .i64 (a' : Int), .slice A' la' cA', .slice B' lb' cB'] 27)).heap.size by simp; omega)
        have hfew := HH.out.few
        simp only [List.length_cons] at hfew
        have HOW := Lib.hid how; have HTS := Lib.hid hts; have HU5 := Lib.hid hu5; have HT5 := Lib.hid hT5; have HR5 := Lib.hid hR; have HP5 := Lib.hid hP; have HG5 := Lib.hid hG
        clear how hts hu5 hT5 hT hR hP hG hU hsz
        go_wp2_with (at_builtin; refine wpList_where rfl _ _ 24 rfl w.heap.size 27 i0 (.agg #[.int .i64 0, .string ⟨#[]⟩, .int .u32 0, .int .i64 0, .slice none 0 0, .slice none 0 0]) 6 88 Tryd.underlying24 HI.out HZ0.out HZ1.out HZ2.out rfl (by decide) _ xs.length _ rfl HOA.out ⟨w5.heap.size, 0, none⟩ 1 1 (ndC k' a' s' m' A' la' cA' B' lb' cB') rfl rfl HLI.out (by simp [ndC, Value.oneCell']) (by unfold maxLen; omega) (by omega) HBS.out (by decide) ?_; intro g8 c8 w8 hE; have HE8 := Lib.hid hE; clear hE)
        have HST := Lib.hid (arr_step HOW.out HTS.out hlt HU5.out HT5.out HE8.out)
        have HJ8 : Hid (ArI w bp d (u :: q) x r (xs ++ [x']) r5 g8 c8 w8) := Lib.hid ⟨fun o h => HH.out.rd o (r_args hon HR5.out h), HP5.out.far HST.out.2.2 fun b hb => by have := (own_at HOW.out).1; omega, HG5.out, by have := HH.out.lt; simp at this ⊢; omega, HST.out.1, by simp; omega, HST.out.2.1 w (Nat.le_refl _) HH.out.ub⟩
        go_roundw
        case rel => exact ⟨xs ++ [x'], r5, g8, c8, by rw [List.length_append]; rfl, HJ8⟩
        case measure =>
          rw [PS.len HJ8.out.ps, PS.len HH.out.ps]
          simp; omega
      · have HR := Lib.hid hR; have HU := Lib.hid ((HH.out.ub.trans HU4.out).trans hU)
        clear hR hU
        go_wp2_with fail
        exact ⟨rfl, .inr ⟨a', er, rfl, fun p s => ar_bad1 HR0.out (HH.out.rd _ (r_args_bad hon HR.out)), HU.out⟩⟩
    · have hc' : (t.s == [44]) = false := by simpa using hc
      rw [hc'] at HIS
      have hon : isS [44] t = false := by rw [isS_eq HH.out.gt.hd (by decide)]; exact hc'
      clear hc hc'
      go_wp2_with fail
      refine HIS.out.mono ?_
      rintro e w3 ⟨rfl, hb3⟩
      by_cases hv : (t.s == [41]) = true
      · have hk : t.k ≠ 0 := by
          have := okt_lit HH.out.gt.hd (by rw [eq_of_beq hv]; decide)
          omega
        have hgr := HH.out.gt.tail hk
        obtain ⟨t2, r2, hr2⟩ := hgr.cons
        have HM3 := Lib.hid (must_yes w3 bp d t r' [41] (HH.out.ps.below hb3) hv (by rw [hr2]; simp))
        have hon2 : isS [41] t = true := by rw [isS_eq HH.out.gt.hd (by decide)]; exact hv
        have HB3 := Lib.hid hb3; have HGR := Lib.hid hgr
        clear hb3 hv hgr hr2
        go_wp2_with fail
        refine HM3.out.mono ?_
        rintro e w4 ⟨rfl, hp4, hu4⟩
        have HP4 := Lib.hid hp4; have HU4 := Lib.hid hu4
        clear hp4 hu4
        go_wp2_with fail
        go_ret
        have hu4 : UB bp wr w4 := (below_UB HB3.out).trans HU4.out
        refine .inl ⟨g, c, xs, r', rfl, HH.out.arr.upd hu4 (fun b hb => by omega), by have := HH.out.few; omega, fun p s => ar_ok HR0.out (HH.out.rd _ (r_args_stop hon)) hon2, HP4.out, HGR.out, by have := HH.out.lt; simp at this ⊢; omega, HH.out.ub.trans hu4⟩
      · have hv' : (t.s == [41]) = false := by simpa using hv
        have HM3 := Lib.hid (must_no w3 bp d t r' [41] (HH.out.ps.below hb3) hv')
        have hon2 : isS [41] t = false := by rw [isS_eq HH.out.gt.hd (by decide)]; exact hv'
        have HB3 := Lib.hid hb3
        clear hb3 hv hv'
        go_wp2_with fail
        refine HM3.out.mono ?_
        rintro e w4 ⟨rfl, hu4⟩
        have HU4 := Lib.hid hu4
        clear hu4
        go_wp2_with fail
        exact ⟨rfl, .inr ⟨t.at_, 100, rfl, fun p s => ar_end HR0.out (HH.out.rd _ (r_args_stop hon)) hon2, HH.out.ub.trans ((below_UB HB3.out).trans HU4.out)⟩⟩
end Go.Proofs.YtkdpndoollbggaaDoor.Pa
