/- DERIVED. PaSq in one text. By an AI agent. -/
import Derived.Test.YtpoepignpdfleaaGreatDoorZ21
import Derived.Test.YtpoepignpdfleaaGreatDoorZ03
/- DERIVED. Contracts of package parse's number and names. By an AI agent. -/
namespace Go.Proofs.YtpoepignpdfleaaGreatDoor.Pa
open Go Go.ChangeShapes Go.WideShapes Go.ChangeAt Go.RowKit Lx Args
set_option linter.unusedVariables false
set_option linter.unusedSimpArgs false
attribute [local go_sem] fTk0 fTk1 fTk2
/-- A text as a number, and the error. -/
def numV (s : Bs) : Nat × Nat := Num.numR (if Lib.hasPrefix s [48, 120] = true then 16 else 10) (Lib.trimPrefix s [48, 120])
theorem numR_er (b : Nat) (L : List UInt8) : (Num.numR b L).2 = 0 ∨ (Num.numR b L).2 = 2 ∨ (Num.numR b L).2 = 4 := by
  unfold Num.numR
  split
  · exact .inr (.inr rfl)
  · split
    · exact .inr (.inr rfl)
    · split
      · exact .inr (.inl rfl)
      · exact .inl rfl
theorem trim_len (s p : Bs) : (Lib.trimPrefix s p).length ≤ s.length := by
  unfold Lib.trimPrefix
  split
  · rw [List.length_drop]; omega
  · exact Nat.le_refl _
theorem numC (s : Bs) (hs : s.length ≤ 20000) (w : World) : Calls Tryz.prog 137 #[.string ⟨s.toArray⟩] w fun e w' => e = .returned (.tuple #[.int .u32 ((numV s).1 : Int), .int .i64 ((numV s).2 : Int)]) ∧ w = w' := by
  have h := Num.numC (Lib.hasPrefix s [48, 120]) ⟨s.toArray⟩ ⟨(Lib.trimPrefix s [48, 120]).toArray⟩ w rfl rfl (by
    have := trim_len s [48, 120]
    show (Lib.trimPrefix s [48, 120]).toArray.size ≤ maxLen
    rw [List.size_toArray]; unfold maxLen; omega)
  refine h.mono fun e w' h => ⟨h.1, h.2⟩
set_option maxRecDepth 100000 in
theorem number (w : World) (bp d : Nat) (t : Tk) (r : List Tk) (hp : PS w bp (t :: r) d) (hs : t.s.length ≤ 20000) (hr : r ≠ []) :
    Calls Tryz.prog 131 #[.pointer (some ⟨bp, 0, none⟩)] w fun e w' =>
      ((numV t.s).2 = 0 ∧ e = .returned (.int .u32 ((numV t.s).1 : Int)) ∧ PS w' bp r d ∧ UB bp w w') ∨ ((numV t.s).2 ≠ 0 ∧ e = panV t.at_ (if (numV t.s).2 = 4 then 100 else 150) ∧ UB bp w w') := by
  have HN := Lib.hid (next w bp d t r hp)
  have HP := Lib.hid hp; have HR := Lib.hid hr
  have hC := numC t.s hs
  have her : (numV t.s).2 = 0 ∨ (numV t.s).2 = 2 ∨ (numV t.s).2 = 4 := numR_er _ _
  generalize numV t.s = q at hC her ⊢
  obtain ⟨n, er⟩ := q
  dsimp only at hC her ⊢
  have HC := Lib.hid hC
  clear hp hr hC
  rcases her with rfl | rfl | rfl
  all_goals
    go_enter Tryz.func131, Tryz.ntmps131
    go_wp2_with fail
    refine HN.out.mono ?_
    rintro e w1 ⟨rfl, hb1⟩
    have HP1 := Lib.hid (HP.out.below hb1)
    have HB1 := Lib.hid hb1
    clear hb1
    go_wp2_with fail
    refine (HC.out _).mono ?_
    rintro e w' ⟨rfl, rfl⟩
    go_wp2_with fail
  · refine (take w1 bp d t r HP1.out HR.out).mono ?_
    rintro e w2 ⟨rfl, hp2, hu2⟩
    have HP2 := Lib.hid hp2; have HU2 := Lib.hid ((below_UB (bp := bp) HB1.out).trans hu2)
    clear hp2 hu2
    go_wp2_with fail
    go_ret
    exact ⟨rfl, HP2.out, HU2.out⟩
  · refine (here w1 bp d t r 150 HP1.out).mono ?_
    rintro e w2 ⟨rfl, hb2⟩
    have HB2 := Lib.hid (HB1.out.trans (hb2.mono HB1.out.size))
    clear hb2
    go_wp2_with fail
    exact ⟨rfl, rfl, below_UB HB2.out⟩
  · refine (here w1 bp d t r 100 HP1.out).mono ?_
    rintro e w2 ⟨rfl, hb2⟩
    have HB2 := Lib.hid (HB1.out.trans (hb2.mono HB1.out.size))
    clear hb2
    go_wp2_with fail
    exact ⟨rfl, rfl, below_UB HB2.out⟩
theorem nk_end (ps : List Bs) {t u : Tk} {r : List Tk} (hk : t.k = 1) (hu : isS [44] u = false) (f : List Bs → List Tk → OO) : namesK ps (t :: u :: r) f = f (ps ++ [t.s]) (u :: r) := by
  conv => lhs; unfold namesK
  rw [if_pos hk, if_neg (by rw [hu]; decide)]
theorem nk_go (ps : List Bs) {t u : Tk} {r : List Tk} (hk : t.k = 1) (hu : isS [44] u = true) (f : List Bs → List Tk → OO) : namesK ps (t :: u :: r) f = namesK (ps ++ [t.s]) r f := by
  conv => lhs; unfold namesK
  rw [if_pos hk, if_pos hu]
theorem nk_no (ps : List Bs) {t : Tk} {r : List Tk} (hk : t.k ≠ 1) (f : List Bs → List Tk → OO) : namesK ps (t :: r) f = some (.bad t.at_ 100) := by
  cases r with
  | nil => conv => lhs; unfold namesK
           rw [if_neg hk]; rfl
  | cons u r => conv => lhs; unfold namesK
                rw [if_neg hk]; rfl
theorem infoSt : (Tryz.prog.info? 9).map (fun i => (i.zero, i.size, i.bytes)) = some (some (.string ⟨#[]⟩), 1, 16) := by kernel_rfl
/-- What names hands back. -/
def NmP (w : World) (bp d : Nat) (l : List Tk) (e : Ending) (w' : World) : Prop :=
  (∃ ps r g c, e = .returned (.slice (some ⟨g, 0, none⟩) ps.length c) ∧ (∀ f, namesK [] l f = f ps r) ∧ PS w' bp r d ∧ Et r ∧ r <:+ l ∧ r.length < l.length ∧ Lies w' (some ⟨g, 0, none⟩) (ps.map strV) ∧ w.heap.size ≤ g ∧ ps.length ≤ 4000 ∧ UB bp w w') ∨
  (∃ a, e = panV a 100 ∧ (∀ f, namesK [] l f = some (.bad a 100)) ∧ UB bp w w')
/-- A name behind those that were read. -/
def NmI (w : World) (bp d : Nat) (l : List Tk) (ps : List Bs) (u : Tk) (r : List Tk) (g c : Nat) (W : World) : Prop :=
  (∀ f, namesK [] l f = if isS [44] u = true then namesK ps r f else f ps (u :: r)) ∧ PS W bp (u :: r) d ∧ Gt (u :: r) ∧ (u :: r) <:+ l ∧ (u :: r).length < l.length ∧ W.ownsRow w.heap.size 9 1 (.slice (some ⟨g, 0, none⟩) ps.length c) ps.length (ps.map strV) ∧ ps.length + r.length ≤ 4000 ∧ UB bp w W
theorem et_ne {t : Tk} {r : List Tk} (h : Et (t :: r)) (ht : t.k ≠ 0) : ∃ u r', r = u :: r' := by
  have := et_tail h ht
  cases r with
  | nil => exact absurd this et_nil
  | cons u r' => exact ⟨u, r', rfl⟩
theorem own_str {w : World} {lo g c : Nat} {ps : List Bs} (h : w.ownsRow lo 9 1 (.slice (some ⟨g, 0, none⟩) ps.length c) ps.length (ps.map strV)) : Lies w (some ⟨g, 0, none⟩) (ps.map strV) ∧ lo ≤ g :=
  ⟨fun j u hj => ⟨_, rfl, h.cells (g := g) rfl j u hj⟩, (own_at h).1⟩
def lenAt (w : World) (bp : Nat) : Nat := match w.cell? ⟨bp, 0, none⟩ with | some (.slice _ n _) => n | _ => 0
theorem PS.len {w : World} {bp : Nat} {l : List Tk} {d : Nat} (h : PS w bp l d) : lenAt w bp = l.length := by
  obtain ⟨b, o, c, _, h1, _⟩ := h
  unfold lenAt
  rw [show w.cell? ⟨bp, 0, none⟩ = some (.slice (some ⟨b, o, none⟩) l.length c) from h1.cell 0]
theorem nm_next {w wr w5 w8 : World} {bp d g c g8 c8 : Nat} {l r3 : List Tk} {ps : List Bs} {u v v2 : Tk} {X : Array Value} (HH : NmI w bp d l ps u (v :: v2 :: r3) g c wr) (hlt : bp < w.heap.size) (hon : isS [44] u = true) (hk : v.k = 1) (hgv : Gt (v :: v2 :: r3)) (hU : UB bp wr w5) (hP : PS w5 bp (v2 :: r3) d)
    (hE : AppE w.heap.size 9 1 (w5.alloc (.cells X 9)) (.slice (some ⟨g, 0, none⟩) ps.length c) ps.length 1 (ps.map strV ++ [.string ⟨v.s.toArray⟩]) g8 c8 w8) : NmI w bp d l (ps ++ [v.s]) v2 r3 g8 c8 w8 := by
  obtain ⟨h1, h2, h3, h4, h5, h6, h7, h8⟩ := HH
  have hg := own_at h6
  have hu8 : Upd (fun b => b = bp ∨ b = g) wr w8 := ((hU.mono fun k hk => Or.inl hk).alloc _).grown hE.grown fun k hk _ => by cases hk; exact .inr rfl
  have hu58 : Upd (fun b => b = g) w5 w8 := ((Upd.refl _ w5).alloc _).grown hE.grown fun k hk _ => by cases hk; rfl
  refine ⟨fun f => ?_, hP.far hu58 fun b hb => by omega, hgv.tail (by omega), (List.suffix_cons _ _).trans ((List.suffix_cons _ _).trans h4), by simp only [List.length_cons] at h5 ⊢; omega, ?_, by simp only [List.length_append, List.length_cons, List.length_nil] at h7 ⊢; omega, ?_⟩
  · rw [h1 f, if_pos hon]
    by_cases hu : isS [44] v2 = true
    · rw [if_pos hu, nk_go _ hk hu]
    · rw [if_neg hu, nk_end _ hk (by simpa using hu)]
  · rw [List.length_append, List.map_append]; exact hE.own
  · exact ((h8.mono fun k hk => Or.inl hk).trans hu8).fresh fun k hk hs => by
      rcases hk with hk | hk
      · exact hk
      · subst hk; exact absurd hs (by omega)
set_option maxRecDepth 100000 in
set_option maxHeartbeats 2000000 in
theorem names (w : World) (bp d : Nat) (l : List Tk) (hp : PS w bp l d) (hg : Gt l) :
    Calls Tryz.prog 76 #[.pointer (some ⟨bp, 0, none⟩)] w (NmP w bp d l) := by
  obtain ⟨t, r, rfl⟩ := hg.cons
  have hlt := hp.lt
  obtain ⟨i0, hi, hz⟩ := Option.map_eq_some_iff.1 infoSt
  have hz0 := congrArg (·.1) hz; have hz1 := congrArg (·.2.1) hz; have hz2 := congrArg (·.2.2) hz
  have HI := Lib.hid hi; have HZ0 := Lib.hid hz0; have HZ1 := Lib.hid hz1; have HZ2 := Lib.hid hz2
  clear hi hz hz0 hz1 hz2
  by_cases hk : t.k = 1
  · obtain ⟨u, r, rfl⟩ := et_ne hg.et (by omega)
    have HN := Lib.hid (name_yes w bp d t (u :: r) hp hk (by simp))
    have HG := Lib.hid (hg.tail (by omega))
    have HF : Hid (∀ f, namesK [] (t :: u :: r) f = if isS [44] u = true then namesK [t.s] r f else f [t.s] (u :: r)) := Lib.hid fun f => by
      by_cases hu : isS [44] u = true
      · rw [if_pos hu, nk_go _ hk hu]; rfl
      · rw [if_neg hu, nk_end _ hk (by simpa using hu)]; rfl
    have hfw := hg.few
    have HFW : Hid (r.length + 2 ≤ 4000) := Lib.hid (by simpa using hfw)
    clear hp hg hk hfw
    go_enter Tryz.func76, Tryz.ntmps76
    go_wp2_with fail
    refine HN.out.mono ?_
    rintro e w1 ⟨rfl, hp1, hu1⟩
    have HJ : Hid (NmI w bp d (t :: u :: r) [t.s] u r w1.heap.size 1 (w1.alloc (.cells #[.string ⟨t.s.toArray⟩] 9))) := Lib.hid ⟨HF.out, hp1.below ((Below.refl _ _).alloc (Nat.le_refl _) _), HG.out, List.suffix_cons _ _, by simp,
      own_full w1 hu1.size 9 1 1 [.string ⟨t.s.toArray⟩] rfl (by decide), by have := HFW.out; simp; omega, (hu1.alloc _)⟩
    clear hp1 hu1 HF HN HG HFW
    go_wp2_with fail
    go_loopw [3] (fun vl wr => ∃ ps u' r' g c, vl = .slice (some ⟨g, 0, none⟩) ps.length c ∧ Hid (NmI w bp d (t :: u :: r) ps u' r' g c wr)) (fun _ wr => lenAt wr bp)
    case atStart => exact ⟨[t.s], u, r, _, _, rfl, HJ⟩
    case round =>
      clear HJ
      obtain ⟨ps, u', r', g, c, rfl, HH⟩ := hrel
      have HIS := Lib.hid (is_ wr bp d u' r' [44] HH.out.2.1)
      by_cases hc : (u'.s == [44]) = true
      · rw [hc] at HIS
        have hu' : u'.k ≠ 0 := by
          have := okt_lit HH.out.2.2.1.hd (by rw [eq_of_beq hc]; decide)
          omega
        obtain ⟨v, r'', rfl⟩ := et_ne HH.out.2.2.1.et hu'
        have hon : isS [44] u' = true := by rw [isS_eq HH.out.2.2.1.hd (by decide)]; exact hc
        go_wp2_with fail
        refine HIS.out.mono ?_
        rintro e w3 ⟨rfl, hb3⟩
        have HT := Lib.hid (take w3 bp d u' (v :: r'') (HH.out.2.1.below hb3) (by simp))
        have HB3 := Lib.hid hb3
        clear hb3
        go_wp2_with fail
        refine HT.out.mono ?_
        rintro e w4 ⟨rfl, hp4, hu4⟩
        have hu4' : UB bp wr w4 := (below_UB HB3.out).trans hu4
        have hgv : Gt (v :: r'') := HH.out.2.2.1.tail hu'
        by_cases hk : v.k = 1
        · obtain ⟨v2, r3, rfl⟩ := et_ne hgv.et (by omega)
          have HN := Lib.hid (name_yes w4 bp d v (v2 :: r3) hp4 hk (by simp))
          have HU4 := Lib.hid hu4'
          clear hp4 hu4 hu4' hc
          go_wp2_with fail
          refine HN.out.mono ?_
          rintro e w5 ⟨rfl, hp5, hu5⟩
          have hu5' : UB bp wr w5 := HU4.out.trans hu5
          have HU5 := Lib.hid hu5'
          have how : w5.ownsRow w.heap.size 9 1 (.slice (some ⟨g, 0, none⟩) ps.length c) ps.length (ps.map strV) := own_upd3 HH.out.2.2.2.2.2.1 hu5' (by have := (own_at HH.out.2.2.2.2.2.1).1; omega)
          have HOA := Lib.hid (World.ownsRow.alloc how (.cells #[.string ⟨v.s.toArray⟩] 9))
          have HLI := Lib.hid (lies_full w5 9 [.string ⟨v.s.toArray⟩])
          have hsz : w.heap.size ≤ w5.heap.size := Nat.le_trans HH.out.2.2.2.2.2.2.2.size hu5'.size
          have HBS := Lib.hid (show w.heap.size ≤ (w5.alloc (.cells #[.string ⟨v.s.toArray⟩] 9)).heap.size by simp; omega)
          have hfew : ps.length + (u' :: v :: v2 :: r3).length ≤ 4001 := by have := HH.out.2.2.2.2.2.2.1; simp at this ⊢; omega
          have HP5 := Lib.hid hp5
          simp only [List.length_cons] at hfew
          clear hp5 hu5 hu5' how hsz
          go_wp2_with (at_builtin; refine wpList_where rfl _ _ 24 rfl w.heap.size 9 i0 (.string ⟨#[]⟩) 1 16 Tryz.underlying24 HI.out HZ0.out HZ1.out HZ2.out rfl (by decide) _ ps.length _ rfl HOA.out ⟨w5.heap.size, 0, none⟩ 1 1 [.string ⟨v.s.toArray⟩] rfl rfl HLI.out (by simp [Value.oneCell']) (by unfold maxLen; omega) (by omega) HBS.out (by decide) ?_; intro g8 c8 w8 hE; have HE := Lib.hid hE; clear hE)
          go_roundw
          case rel => exact ⟨ps ++ [v.s], v2, r3, g8, c8, by rw [List.length_append]; rfl, Lib.hid (nm_next HH.out hlt hon hk hgv HU5.out HP5.out HE.out)⟩
          case measure =>
            have e8 := PS.len (nm_next HH.out hlt hon hk hgv HU5.out HP5.out HE.out).2.1
            have er := PS.len HH.out.2.1
            rw [e8, er]
            simp
        · have HN := Lib.hid (name_no w4 bp d v r'' hp4 hk)
          have HU4 := Lib.hid hu4'
          clear hp4 hu4 hu4' hc
          go_wp2_with fail
          refine HN.out.mono ?_
          rintro e w5 ⟨rfl, hu5⟩
          have HU5 := Lib.hid (HU4.out.trans hu5)
          clear hu5
          go_wp2_with fail
          refine ⟨rfl, .inr ⟨_, rfl, fun f => ?_, HH.out.2.2.2.2.2.2.2.trans HU5.out⟩⟩
          rw [HH.out.1 f, if_pos hon, nk_no _ hk]
      · have hc' : (u'.s == [44]) = false := by simpa using hc
        rw [hc'] at HIS
        have hon : isS [44] u' = false := by rw [isS_eq HH.out.2.2.1.hd (by decide)]; exact hc'
        clear hc hc'
        go_wp2_with fail
        refine HIS.out.mono ?_
        rintro e w3 ⟨rfl, hb3⟩
        have HB3 := Lib.hid hb3
        clear hb3
        go_wp2_with fail
        go_ret
        obtain ⟨k1, k2, k3, k4, k5, k6, k7, k8⟩ := HH.out
        have hs := own_str k6
        refine .inl ⟨ps, u' :: r', g, c, rfl, fun f => ?_, k2.below HB3.out, k3.et, k4, k5, hs.1.below HB3.out, hs.2, by omega, k8.trans (below_UB HB3.out)⟩
        rw [k1 f, hon]; rfl
  · have HN := Lib.hid (name_no w bp d t r hp hk)
    clear hp hg
    go_enter Tryz.func76, Tryz.ntmps76
    go_wp2_with fail
    refine HN.out.mono ?_
    rintro e w1 ⟨rfl, hu1⟩
    have HU1 := Lib.hid hu1
    clear hu1
    go_wp2_with fail
    exact ⟨rfl, .inr ⟨_, rfl, fun f => nk_no _ hk f, HU1.out⟩⟩
end Go.Proofs.YtpoepignpdfleaaGreatDoor.Pa
