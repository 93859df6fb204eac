/- DERIVED. RqGo, RqFo in one text. By an AI agent. -/
import Derived.Test.YtokfmclbninkmaaGreatDoorZ43
import Derived.Test.YtokfmclbninkmaaGreatDoorZ41
import Derived.Test.YtokfmclbninkmaaGreatDoorZ27
/- DERIVED. The reference parser's goes, and names, alike whether something was wrong before or not. By an AI agent. -/
namespace Go.Proofs.YtokfmclbninkmaaGreatDoor.Pq
open Go Go.ChangeShapes Go.WideShapes Go.ChangeAt Go.RowKit Lx Args Pa
set_option linter.unusedVariables false
set_option linter.unusedSimpArgs false
attribute [local go_sem] fTk0 fTk1 fTk2
/-- If the sign b comes, what stands behind it is read on by A; else all by B. -/
def Gk (b : Bs) (A B : Nat → List Tk → OO) (f : Nat) (l : List Tk) : OO := match l with
  | [] => none
  | t :: r => if isS b t = true then A f r else B f (t :: r)
theorem SC.imp {w : World} {bp n : Nat} {G G' : Nat → List Tk → OO} {E : Out → Prop} (h : SC w bp n G E) (he : ∀ f l, Gt l → G' f l = G f l) : SC w bp n G' E := by
  rcases h with ⟨l, h1, h2, h3, h4⟩ | h
  · exact .inl ⟨l, h1, h2, h3, fun o ho => h4 o (ev_eq ho fun f => (he f l h2).symm)⟩
  · exact .inr h
theorem SC.le {w : World} {bp n m : Nat} {G : Nat → List Tk → OO} {E : Out → Prop} (h : SC w bp n G E) (hm : n ≤ m) : SC w bp m G E := by
  rcases h with ⟨l, h1, h2, h3, h4⟩ | h
  · exact .inl ⟨l, h1, h2, by omega, h4⟩
  · exact .inr h
theorem SC.me {w : World} {bp n : Nat} {G : Nat → List Tk → OO} {E : Out → Prop} (h : SC w bp n G E) : meQ w bp ≤ n + 1 := by
  rcases h with ⟨l, h1, h2, h3, h4⟩ | ⟨ba, er, t, r, he, _, h⟩
  · rw [h1.me]; omega
  · rw [h.me0 he]; omega
theorem goes_u (w : World) (bp n : Nat) (b : Bs) (A B : Nat → List Tk → OO) (E : Out → Prop) (h : SC w bp n (Gk b A B) E) :
    Calls Tryz.prog 69 #[.pointer (some ⟨bp, 0, none⟩), .string ⟨b.toArray⟩] w fun e w' =>
      (e = .returned (.bool true) ∧ (∃ l, QS w' bp l 0 0 ∧ Gt l ∧ l.length + 1 ≤ n ∧ l.length + 1 < meQ w bp ∧ ∀ o, Ev (fun f => A f l) o → E o) ∧ UB bp w w' ∧ Stay bp w w') ∨ (e = .returned (.bool false) ∧ SC w' bp n B E ∧ Below w.heap.size w w' ∧ Stay bp w w') := by
  rcases h with ⟨l, hq, hg, hl, hE⟩ | ⟨ba, er, t, r, he, hE, hq⟩
  · obtain ⟨t, r, rfl⟩ := hg.cons
    have hm := hq.me
    simp only [List.length_cons] at hl hm
    by_cases hb : isS b t = true
    · refine (goes_yes w bp t r b hq hb (gt_ne hg (is_k hb))).mono ?_
      rintro e w' ⟨rfl, hp, hu⟩
      exact .inl ⟨rfl, ⟨r, hp, hg.tail (is_k hb), by omega, by omega, fun o ho => hE o (ev_eq ho fun f => if_pos hb)⟩, hu, stay_live hq⟩
    · have hb' : isS b t = false := by simpa using hb
      refine (goes_no w bp 0 0 t r b hq (.inr hb')).mono ?_
      rintro e w' ⟨rfl, hb2⟩
      exact .inr ⟨rfl, .inl ⟨t :: r, hq.below hb2, hg, by simp only [List.length_cons]; omega, fun o ho => hE o (ev_eq ho fun f => if_neg hb)⟩, hb2, stay_live hq⟩
  · refine (goes_no w bp ba er t r b hq (.inl he)).mono ?_
    rintro e w' ⟨rfl, hb⟩
    exact .inr ⟨rfl, .inr ⟨ba, er, t, r, he, hE, hq.below hb⟩, hb, stay_dead (hq.below hb) he⟩
theorem Stay.trans {bp : Nat} {w w1 w2 : World} (h : Stay bp w w1) (h2 : Stay bp w1 w2) : Stay bp w w2 := fun hw => h2 (h hw)
theorem stay_eq {bp : Nat} {w w' : World} (h : whyQ w' bp = whyQ w bp) : Stay bp w w' := fun hw => by rw [h]; exact hw
def NmK (ps : List Bs) (G : List Bs → Nat → List Tk → OO) (f : Nat) (l : List Tk) : OO := namesK ps l fun ps r => G ps f r
/-- Behind a name. -/
def CmK (ps : List Bs) (G : List Bs → Nat → List Tk → OO) : Nat → List Tk → OO := Gk [44] (NmK ps G) (G ps)
theorem nm_k (ps : List Bs) (G : List Bs → Nat → List Tk → OO) (f : Nat) (l : List Tk) (hg : Gt l) : nameK l (fun s r => CmK (ps ++ [s]) G f r) = NmK ps G f l := by
  obtain ⟨t, r, rfl⟩ := hg.cons
  by_cases hk : t.k = 1
  · obtain ⟨u, q, hr⟩ := (hg.tail (by omega)).cons
    subst hr
    rw [name_y hk]
    unfold NmK CmK Gk
    by_cases hu : isS [44] u = true
    · rw [nk_go _ hk hu]; exact if_pos hu
    · rw [nk_end _ hk (by simpa using hu)]; exact if_neg hu
  · rw [name_n hk]
    unfold NmK
    rw [nk_no _ hk]
/-- Between two names. -/
structure NqI (w : World) (bp n : Nat) (G : List Bs → Nat → List Tk → OO) (E : Out → Prop) (ps : List Bs) (g c m : Nat) (W : World) : Prop where
  sc : SC W bp m (CmK ps G) E
  own : W.ownsRow w.heap.size 9 1 (.slice (some ⟨g, 0, none⟩) ps.length c) ps.length (ps.map strV)
  few : ps.length + m ≤ n + 1
  less : m ≤ n - 1
  ub : UB bp w W
  stay : Stay bp w W
theorem whyQ_far {w w' : World} {bp g : Nat} (hb : bp < w.heap.size) (hu : Upd (fun b => b = g) w w') (hg : bp ≠ g) : whyQ w' bp = whyQ w bp := by
  unfold whyQ
  have h := hu.block bp hb hg
  unfold World.cell?
  simp only [h]
set_option maxRecDepth 100000 in
set_option maxHeartbeats 4000000 in
theorem names_u (w : World) (bp n : Nat) (hn : n ≤ 4000) (G : List Bs → Nat → List Tk → OO) (E : Out → Prop) (h : SC w bp n (NmK [] G) E) :
    Calls Tryz.prog 70 #[.pointer (some ⟨bp, 0, none⟩)] w fun e w' => ∃ ps g c, e = .returned (.slice (some ⟨g, 0, none⟩) ps.length c) ∧ Lies w' (some ⟨g, 0, none⟩) (ps.map strV) ∧ w.heap.size ≤ g ∧ ps.length ≤ 4001 ∧ SC w' bp (n - 1) (G ps) E ∧ UB bp w w' ∧ Stay bp w w' := by
  have hlt := h.lt
  obtain ⟨i0, hi, hz⟩ := Option.map_eq_some_iff.1 infoSt
  have hz0 := congrArg (·.1) hz; have hz1 := congrArg (·.2.1) hz; have hz2 := congrArg (·.2.2) hz
  have HI := Lib.hid hi; have HZ0 := Lib.hid hz0; have HZ1 := Lib.hid hz1; have HZ2 := Lib.hid hz2
  have HN := Lib.hid (name_u w bp n (fun s => CmK [s] G) E (h.imp fun f l hg => nm_k [] G f l hg))
  clear hi hz hz0 hz1 hz2 h
  go_enter Tryz.func70, Tryz.ntmps70
  go_wp2_with fail
  refine HN.out.mono ?_
  rintro e w1 ⟨s1, rfl, hs1, hu1, hst1⟩
  have HJ : Hid (NqI w bp n G E [s1] w1.heap.size 1 (n - 1) (w1.alloc (.cells #[.string ⟨s1.toArray⟩] 9))) := Lib.hid ⟨hs1.below ((Below.refl _ _).alloc (Nat.le_refl _) _), own_full w1 hu1.size 9 1 1 [.string ⟨s1.toArray⟩] rfl (by decide), by simp; omega, Nat.le_refl _, hu1.alloc _, hst1.trans (hs1.stay ((Below.refl _ _).alloc (Nat.le_refl _) _))⟩
  clear hs1 hu1 hst1 HN
  go_wp2_with fail
  go_loopw [3] (fun vl wr => ∃ ps g c m, vl = .slice (some ⟨g, 0, none⟩) ps.length c ∧ Hid (NqI w bp n G E ps g c m wr)) (fun _ wr => meQ wr bp)
  case atStart => exact ⟨[s1], _, _, _, rfl, HJ⟩
  case round =>
    clear HJ
    obtain ⟨ps, g, c, m, rfl, HH⟩ := hrel
    have hgs := own_at HH.out.own
    go_wp2_with fail
    refine (goes_u wr bp m [44] _ _ E HH.out.sc).mono ?_
    rintro e w2 (⟨rfl, ⟨l, hq, hgt, hlm, hme, hE⟩, hu2, hst2⟩ | ⟨rfl, hsc, hb2, hst2⟩)
    · have HNM := Lib.hid (name_u w2 bp l.length (fun s => CmK (ps ++ [s]) G) E (.inl ⟨l, hq, hgt, Nat.le_refl _, fun o ho => hE o (ev_eq ho fun f => (nm_k ps G f l hgt).symm)⟩))
      have hl0 : 0 < l.length := by obtain ⟨t, r, rfl⟩ := hgt.cons; simp
      have HU2 := Lib.hid hu2; have HST2 := Lib.hid hst2
      clear hq hgt hE hu2 hst2
      go_wp2_with fail
      refine HNM.out.mono ?_
      rintro e w5 ⟨sn, rfl, hs5, hu5, hst5⟩
      have hu5' : UB bp wr w5 := HU2.out.trans hu5
      have how : w5.ownsRow w.heap.size 9 1 (.slice (some ⟨g, 0, none⟩) ps.length c) ps.length (ps.map strV) := own_upd3 HH.out.own hu5' (by omega)
      have HOA := Lib.hid (World.ownsRow.alloc how (.cells #[.string ⟨sn.toArray⟩] 9))
      have HLI := Lib.hid (lies_full w5 9 [.string ⟨sn.toArray⟩])
      have hsz : w.heap.size ≤ w5.heap.size := Nat.le_trans HH.out.ub.size hu5'.size
      have HBS := Lib.hid (show w.heap.size ≤ (w5.alloc (.cells #[.string ⟨sn.toArray⟩] 9)).heap.size by simp; omega)
      have hfew : ps.length ≤ 4001 := by have := HH.out.few; omega
      have HS5 := Lib.hid hs5; have HU5 := Lib.hid hu5'; have HST5 := Lib.hid hst5; have HOW := Lib.hid how
      clear hs5 hu5 hu5' hst5 how
      go_wp2_with (at_builtin; refine wpList_where rfl _ _ 24 rfl w.heap.size 9 i0 (.string ⟨#[]⟩) 1 16 Tryz.underlying24 HI.out HZ0.out HZ1.out HZ2.out rfl (by decide) _ ps.length _ rfl HOA.out ⟨w5.heap.size, 0, none⟩ 1 1 [.string ⟨sn.toArray⟩] rfl rfl HLI.out (by simp [Value.oneCell']) (by unfold maxLen; omega) (by omega) HBS.out (by decide) ?_; intro g8 c8 w8 hE; have HE := Lib.hid hE; clear hE)
      have hu58 : Upd (fun b => b = g) w5 w8 := ((Upd.refl _ w5).alloc _).grown HE.out.grown fun k hk _ => by cases hk; rfl
      have hJ8 : NqI w bp n G E (ps ++ [sn]) g8 c8 (l.length - 1) w8 := by
        refine ⟨HS5.out.far hu58 fun b hb => by omega, ?_, ?_, by have := HH.out.less; omega, ?_, ?_⟩
        · rw [List.length_append, List.map_append]; exact HE.out.own
        · have := HH.out.few
          simp only [List.length_append, List.length_cons, List.length_nil]
          omega
        · refine ((((HH.out.ub.trans HU5.out).mono fun k hk => Or.inl hk).trans (hu58.mono fun k hk => Or.inr hk)) : Upd (fun b => b = bp ∨ b = g) w w8).fresh fun k hk hs => ?_
          rcases hk with hk | hk
          · exact hk
          · subst hk; exact absurd hs (by omega)
        · exact ((HH.out.stay.trans HST2.out).trans HST5.out).trans (stay_eq (whyQ_far HS5.out.lt hu58 (by omega)))
      have HJ8 := Lib.hid hJ8
      clear hJ8 hu58
      go_roundw
      case rel => exact ⟨ps ++ [sn], g8, c8, _, by rw [List.length_append]; rfl, HJ8⟩
      case measure =>
        have := HJ8.out.sc.me
        omega
    · have HSC := Lib.hid hsc; have HB2 := Lib.hid hb2; have HST2 := Lib.hid hst2
      clear hsc hb2 hst2
      go_wp2_with fail
      go_ret
      have hs := own_str HH.out.own
      have hfew := HH.out.few
      exact ⟨ps, g, c, rfl, hs.1.below HB2.out, hs.2, by omega, HSC.out.le (by have := HH.out.less; omega), HH.out.ub.trans (below_UB HB2.out), HH.out.stay.trans HST2.out⟩
end Go.Proofs.YtokfmclbninkmaaGreatDoor.Pq
/- DERIVED. The reference parser's inner: a for. By an AI agent. -/
namespace Go.Proofs.YtokfmclbninkmaaGreatDoor.Pq
open Go Go.ChangeShapes Go.WideShapes Go.ChangeAt Go.RowKit Lx Args Pa
set_option linter.unusedVariables false
set_option linter.unusedSimpArgs false
attribute [local go_sem] fTk0 fTk1 fTk2
/-- inner, of at most n tokens. -/
def InQ (n : Nat) : Prop := ∀ (w : World) (bp d : Nat) (l : List Tk), l.length ≤ n → QS w bp l 0 0 → Gt l →
  Calls Tryz.prog 73 #[.pointer (some ⟨bp, 0, none⟩), .int .i64 (d : Int)] w (OutQ w bp l (Rd numV .inner d l))
/-- A for's end, behind its statements. -/
def FeK (a : Nat) (s : Bs) : List Tr → List Tk → OO := fun zs r => some (.ok [.mk 11 a s 0 [] zs] r)
/-- Statements, up to the closing bracket, read on by G. -/
def IsK (d : Nat) (zs : List Tr) (G : List Tr → List Tk → OO) (f : Nat) (l : List Tk) : OO := bnd (pF numV f (.inners zs) d l) G
theorem ArrT.two {e : TypeId} {lo : Nat} {w1 : World} {x y : Tr} {cs ds : List Value} (hx : TIn (fun b => lo ≤ b) w1 x cs) (hy : TIn (fun b => lo ≤ b) w1 y ds) (hlo : lo ≤ w1.heap.size) : ArrT e lo (w1.alloc (.cells (cs ++ ds).toArray e)) w1.heap.size 2 [x, y] := by
  refine ⟨[cs, ds], ?_, ?_⟩
  · have := own_full w1 hlo e 6 2 (cs ++ ds) (by rw [List.length_append, tIn_len hx, tIn_len hy]) (by decide)
    simpa using this
  · have h1 := tsIn_one (hx.mono (N' := fun b => lo ≤ b ∧ b ≠ w1.heap.size) fun b hb hs => ⟨hb, by omega⟩)
    have h2 := tsIn_one (hy.mono (N' := fun b => lo ≤ b ∧ b ≠ w1.heap.size) fun b hb hs => ⟨hb, by omega⟩)
    exact (tsIn_app h1 h2).upd ((Upd.refl (fun _ => False) w1).alloc _) (fun _ _ h => h)
/-- Between two statements of a for: of those that were read; or what was wrong. -/
def FqI (w : World) (bp d a n0 : Nat) (s : Bs) (E : Out → Prop) (n g c : Nat) (W : World) : Prop :=
  (∃ l zs, n = zs.length ∧ QS W bp l 0 0 ∧ Gt l ∧ zs.length + l.length ≤ n0 + 2 ∧ l.length ≤ n0 ∧ ArrT 26 (w.heap.size + 1) W g c zs ∧ ∀ o, Ev (IsK d zs (FeK a s) · l) o → E o) ∨ (∃ ba er t r, er ≠ 0 ∧ E (.bad ba er) ∧ QS W bp (t :: r) ba er)
theorem is_end {d : Nat} {zs : List Tr} {v : Tk} {r : List Tk} (hv : isS [125] v = true) (a : Nat) (s : Bs) : Ev (IsK d zs (FeK a s) · (v :: r)) (.ok [.mk 11 a s 0 [] zs] r) := ev_bnd (K := fun _ zs r => FeK a s zs r) (r_inners_end (num := numV) hv) (ev_now _)
theorem is_go {d : Nat} {zs xs : List Tr} {v : Tk} {r r' : List Tk} {a : Nat} {s : Bs} {o : Out} (hv : isS [125] v = false) (h : Rd numV .inner (d + 1) (v :: r) (.ok xs r')) (h2 : Ev (IsK d (zs ++ xs) (FeK a s) · r') o) : Ev (IsK d zs (FeK a s) · (v :: r)) o := by
  obtain ⟨g1, h1⟩ := h
  obtain ⟨g2, h2⟩ := h2
  refine ⟨max g1 g2 + 1, fun f hf => ?_⟩
  obtain ⟨k, rfl⟩ : ∃ k, f = k + 1 := ⟨f - 1, by omega⟩
  have e1 := h1 k (by omega)
  have e2 := h2 k (by omega)
  have e2' : bnd (pF numV k (.inners (zs ++ xs)) d r') (FeK a s) = some o := e2
  show bnd (pF numV (k + 1) (.inners zs) d (v :: r)) (FeK a s) = some o
  have : pF numV (k + 1) (.inners zs) d (v :: r) = bnd (pF numV k .inner (d + 1) (v :: r)) fun xs r' => pF numV k (.inners (zs ++ xs)) d r' := by
    conv => lhs; unfold pF
    simp only
    rw [if_neg (by rw [hv]; decide)]
  rw [this]
  have e1' : pF numV k .inner (d + 1) (v :: r) = some (.ok xs r') := e1
  rw [e1']
  exact e2'
theorem is_bad {d : Nat} {zs : List Tr} {v : Tk} {r : List Tk} {a b e : Nat} {s : Bs} (hv : isS [125] v = false) (h : Rd numV .inner (d + 1) (v :: r) (.bad b e)) : Ev (IsK d zs (FeK a s) · (v :: r)) (.bad b e) := ev_bad (K := fun _ zs r => FeK a s zs r) (r_inners_bad hv h)
set_option maxRecDepth 100000 in
set_option maxHeartbeats 8000000 in
theorem in_for {n : Nat} (H : InQ n) (w : World) (bp d : Nat) (t : Tk) (r : List Tk) (hn : r.length ≤ n) (hp : QS w bp (t :: r) 0 0) (hg : Gt (t :: r)) (hd : d ≤ 60) (hf : isS [102, 111, 114] t = true) :
    Calls Tryz.prog 73 #[.pointer (some ⟨bp, 0, none⟩), .int .i64 (d : Int)] w (OutQ w bp (t :: r) (Rd numV .inner d (t :: r))) := by
  obtain ⟨i0, hi, hz⟩ := Option.map_eq_some_iff.1 infoNd
  have hz0 := congrArg (·.1) hz; have hz1 := congrArg (·.2.1) hz; have hz2 := congrArg (·.2.2) hz
  have HI := Lib.hid hi; have HZ0 := Lib.hid hz0; have HZ1 := Lib.hid hz1; have HZ2 := Lib.hid hz2
  clear hi hz hz0 hz1 hz2
  obtain ⟨w0, hw0, hb0, hB⟩ := zero_box w
  have hlt := hp.lt
  have hfw := hg.few
  simp only [List.length_cons] at hfw
  have HT := Lib.hid (tok w0 bp 0 0 t r (hp.below hb0))
  have HP0 := Lib.hid (hp.below hb0); have HGR := Lib.hid (hg.tail (is_k hf)); have HNE := Lib.hid (gt_ne hg (is_k hf))
  have HB0 := Lib.hid hb0; have HB := Lib.hid hB; have HW := Lib.hid hw0
  have hbl := hB.lt
  have hdi : ¬ (60 : Int) < (d : Int) := by omega
  have HF := Lib.hid hf
  clear hb0 hB hp hw0 hg hf
  go_enter Tryz.func73, Tryz.ntmps73
  go_wp2_with fail
  rw [HW.out]
  refine HT.out.mono ?_
  rintro e w1 ⟨rfl, hb1⟩
  have h01 := hb1.size
  have HP1 := Lib.hid (HP0.out.below hb1); have HU1 := Lib.hid ((below_UB (bp := bp) HB0.out).trans (below_UB hb1)); have HX1 := Lib.hid (HB.out.below hb1 HB.out.lt)
  clear hb1 HT HP0
  go_wp2_with fail
  try rw [show decide ((60 : Int) < (d : Int)) = false from decide_eq_false (by omega)]
  refine (bad_no w1 bp 0 0 150 false t r HP1.out (.inl rfl)).mono ?_
  rintro e w' ⟨rfl, rfl⟩
  go_wp2_with fail
  refine (goes_yes w1 bp t r [102, 111, 114] HP1.out HF.out HNE.out).mono ?_
  rintro e w3 ⟨rfl, hp3, hu3⟩
  have HSC : Hid (SC w3 bp r.length (fun f l => nameK l fun s r1 => must [105, 110] r1 fun r2 => bnd (pF numV f (.lev 0) d r2) fun xs r3 => must [46, 46] r3 fun r4 => bnd (pF numV f (.lev 0) d r4) fun ys r5 => must [123] r5 fun r6 => IsK d (xs ++ ys) (FeK t.at_ s) f r6) (Rd numV .inner d (t :: r))) := Lib.hid (.inl ⟨r, hp3, HGR.out, Nat.le_refl _, fun o ho => r_for hd HF.out ho⟩)
  have h13 := hu3.size
  have HU3 := Lib.hid (HU1.out.trans hu3); have HX3 := Lib.hid (HX1.out.upd hu3 (show ¬ w.heap.size = bp by omega))
  clear hp3 hu3 HP1 HU1 HX1
  go_wp2_with fail
  refine (name_u w3 bp _ _ _ HSC.out).mono ?_
  rintro e w4 ⟨sn, rfl, hs4, hu4, _⟩
  have h34 := hu4.size
  have HS4 := Lib.hid hs4; have HU4 := Lib.hid (HU3.out.trans hu4); have HX4 := Lib.hid (HX3.out.upd hu4 (show ¬ w.heap.size = bp by omega))
  clear hs4 hu4 HSC HU3 HX3
  go_wp2_with fail
  refine (must_u w4 bp _ _ _ _ HS4.out).mono ?_
  rintro e w5 ⟨rfl, hs5, hu5, _⟩
  have h45 := hu5.size
  have HS5 := Lib.hid hs5; have HU5 := Lib.hid (HU4.out.trans hu5); have HX5 := Lib.hid (HX4.out.upd hu5 (show ¬ w.heap.size = bp by omega))
  clear hs5 hu5 HS4 HU4 HX4
  go_wp2_with fail
  refine (ex_u w5 bp _ d (fun xs f r3 => must [46, 46] r3 fun r4 => bnd (pF numV f (.lev 0) d r4) fun ys r5 => must [123] r5 fun r6 => IsK d (xs ++ ys) (FeK t.at_ sn) f r6) _ HS5.out).mono ?_
  rintro e w6 ⟨k, a, s, m, A, la, cA, B, lb, cB, x, rfl, hT, hS, hU, _⟩
  obtain ⟨w7, hw7⟩ : ∃ w7, w6.alloc (.cells #[.int .i64 (k : Int), .string ⟨s.toArray⟩, .int .u32 (m : Int), .int .i64 (a : Int), .slice A la cA, .slice B lb cB] 26) = w7 := ⟨_, rfl⟩
  have hb7 : Below w6.heap.size w6 w7 := by rw [← hw7]; exact (Below.refl _ _).alloc (Nat.le_refl _) _
  have hbn : Blk w7 w6.heap.size 26 #[.int .i64 (k : Int), .string ⟨s.toArray⟩, .int .u32 (m : Int), .int .i64 (a : Int), .slice A la cA, .slice B lb cB] := by rw [← hw7]; exact Blk.new _ _ _
  have h56 := hU.size
  have h67 := hbn.lt
  have HT7 : Hid (whyQ w7 bp = 0 → TIn (fun b => w.heap.size + 1 ≤ b) w7 x (ndC k a s m A la cA B lb cB)) := Lib.hid fun hq => (tup (hT ((hS.stay hb7).back hq)) (show w.heap.size + 1 ≤ w5.heap.size by omega)).upd (Upd.of_below hb7 fun _ => False) (fun _ _ h => h)
  have HS7 := Lib.hid (hS.below hb7); have HU7 := Lib.hid ((HU5.out.trans hU).trans (below_UB hb7)); have HX7 := Lib.hid ((HX5.out.upd hU (show ¬ w.heap.size = bp by omega)).below hb7 (by omega)); have HW7 := Lib.hid hw7; have HBN := Lib.hid hbn
  clear hT hS hU hb7 hw7 hbn HS5 HU5 HX5
  go_wp2_with fail
  rw [HW7.out]
  refine (must_u w7 bp _ _ _ _ HS7.out).mono ?_
  rintro e w8 ⟨rfl, hs8, hu8, hst8⟩
  have h78 := hu8.size
  have HT8 : Hid (whyQ w8 bp = 0 → TIn (fun b => w.heap.size + 1 ≤ b) w8 x (ndC k a s m A la cA B lb cB)) := Lib.hid fun hq => (HT7.out (hst8.back hq)).upd hu8 fun b hb e => by omega
  have HS8 := Lib.hid hs8; have HU8 := Lib.hid (HU7.out.trans hu8); have HX8 := Lib.hid (HX7.out.upd hu8 (show ¬ w.heap.size = bp by omega)); have HBN8 := Lib.hid (HBN.out.upd hu8 (show ¬ w6.heap.size = bp by omega))
  clear hs8 hu8 hst8 HS7 HU7 HX7 HT7 HBN HW7
  go_wp2_with fail
  refine (ex_u w8 bp _ d (fun ys f r5 => must [123] r5 fun r6 => IsK d ([x] ++ ys) (FeK t.at_ sn) f r6) _ HS8.out).mono ?_
  rintro e w9 ⟨k2, a2, s2, m2, A2, la2, cA2, B2, lb2, cB2, y, rfl, hT, hS, hU, hst9⟩
  obtain ⟨wa, hwa⟩ : ∃ wa, w9.alloc (.cells #[.int .i64 (k2 : Int), .string ⟨s2.toArray⟩, .int .u32 (m2 : Int), .int .i64 (a2 : Int), .slice A2 la2 cA2, .slice B2 lb2 cB2] 26) = wa := ⟨_, rfl⟩
  have hba : Below w9.heap.size w9 wa := by rw [← hwa]; exact (Below.refl _ _).alloc (Nat.le_refl _) _
  have hbn : Blk wa w9.heap.size 26 #[.int .i64 (k2 : Int), .string ⟨s2.toArray⟩, .int .u32 (m2 : Int), .int .i64 (a2 : Int), .slice A2 la2 cA2, .slice B2 lb2 cB2] := by rw [← hwa]; exact Blk.new _ _ _
  have h89 := hU.size
  have h9a := hbn.lt
  have HTx : Hid (whyQ wa bp = 0 → TIn (fun b => w.heap.size + 1 ≤ b) wa x (ndC k a s m A la cA B lb cB)) := Lib.hid fun hq => ((HT8.out (hst9.back ((hS.stay hba).back hq))).upd hU fun b hb e => by omega).upd (Upd.of_below hba fun _ => False) (fun _ _ h => h)
  have HTy : Hid (whyQ wa bp = 0 → TIn (fun b => w.heap.size + 1 ≤ b) wa y (ndC k2 a2 s2 m2 A2 la2 cA2 B2 lb2 cB2)) := Lib.hid fun hq => (tup (hT ((hS.stay hba).back hq)) (show w.heap.size + 1 ≤ w8.heap.size by omega)).upd (Upd.of_below hba fun _ => False) (fun _ _ h => h)
  have HSa := Lib.hid (hS.below hba); have HUa := Lib.hid ((HU8.out.trans hU).trans (below_UB hba)); have HXa := Lib.hid ((HX8.out.upd hU (show ¬ w.heap.size = bp by omega)).below hba (by omega)); have HWa := Lib.hid hwa
  have HBNy := Lib.hid hbn; have HBNx := Lib.hid ((HBN8.out.upd hU (show ¬ w6.heap.size = bp by omega)).below hba (by omega))
  clear hT hS hU hba hwa hbn hst9 HS8 HU8 HX8 HT8 HBN8
  go_wp2_with fail
  rw [HWa.out]
  refine (must_u wa bp _ _ _ _ HSa.out).mono ?_
  rintro e wb ⟨rfl, hsb, hub, hstb⟩
  have hab := hub.size
  have hnx := HBNx.out.upd hub (show ¬ w6.heap.size = bp by omega)
  have hny := HBNy.out.upd hub (show ¬ w9.heap.size = bp by omega)
  obtain ⟨⟨g0, g1, g2, g3, g4, g5⟩, x0, x1, x2, x3, x4, x5⟩ := Blk.c6 hnx
  obtain ⟨⟨j0, j1, j2, j3, j4, j5⟩, y0, y1, y2, y3, y4, y5⟩ := Blk.c6 hny
  have hnxl := hnx.lt
  have hnyl := hny.lt
  have HTx2 : Hid (whyQ wb bp = 0 → TIn (fun b => w.heap.size + 1 ≤ b) wb x (ndC k a s m A la cA B lb cB)) := Lib.hid fun hq => (HTx.out (hstb.back hq)).upd hub fun b hb e => by omega
  have HTy2 : Hid (whyQ wb bp = 0 → TIn (fun b => w.heap.size + 1 ≤ b) wb y (ndC k2 a2 s2 m2 A2 la2 cA2 B2 lb2 cB2)) := Lib.hid fun hq => (HTy.out (hstb.back hq)).upd hub fun b hb e => by omega
  have HSb := Lib.hid hsb; have HUb := Lib.hid (HUa.out.trans hub); have HXb := Lib.hid (HXa.out.upd hub (show ¬ w.heap.size = bp by omega))
  clear hsb hub hstb hnx hny HTx HTy HSa HUa HXa HWa HBNx HBNy
  obtain ⟨wc, hwc⟩ : ∃ wc, wb.alloc (.cells #[.int .i64 (k : Int), .string ⟨s.toArray⟩, .int .u32 (m : Int), .int .i64 (a : Int), .slice A la cA, .slice B lb cB, .int .i64 (k2 : Int), .string ⟨s2.toArray⟩, .int .u32 (m2 : Int), .int .i64 (a2 : Int), .slice A2 la2 cA2, .slice B2 lb2 cB2] 26) = wc := ⟨_, rfl⟩
  have hbc : Below wb.heap.size wb wc := by rw [← hwc]; exact (Below.refl _ _).alloc (Nat.le_refl _) _
  have HJ : Hid (FqI w bp d t.at_ r.length sn (Rd numV .inner d (t :: r)) 2 wb.heap.size 2 wc) := Lib.hid (by
    rcases HSb.out with ⟨l8, hq8, hg8, hl8, hE8⟩ | ⟨ba, er, t8, r8, he8, hE8, hq8⟩
    · refine .inl ⟨l8, [x, y], rfl, hq8.below hbc, hg8, by simp; omega, by omega, ?_, hE8⟩
      have hw0 := whyQ_live hq8
      have := ArrT.two (e := 26) (HTx2.out hw0) (HTy2.out hw0) (by omega)
      rwa [show wb.alloc (.cells ((ndC k a s m A la cA B lb cB) ++ (ndC k2 a2 s2 m2 A2 la2 cA2 B2 lb2 cB2)).toArray 26) = wc from hwc] at this
    · exact .inr ⟨ba, er, t8, r8, he8, hE8, hq8.below hbc⟩)
  have HUc := Lib.hid (HUb.out.trans (below_UB hbc)); have HXc := Lib.hid (HXb.out.below hbc HXb.out.lt); have HWC := Lib.hid hwc
  clear hbc hwc HTx2 HTy2 HSb HUb HXb
  go_wp2_with fail
  rw [HWC.out]
  clear g0 g1 g2 g3 g4 g5 x0 x1 x2 x3 x4 x5 j0 j1 j2 j3 j4 j5 y0 y1 y2 y3 y4 y5
  go_loopw [9] (fun vl wr => ∃ n' g c, vl = .slice (some ⟨g, 0, none⟩) n' c ∧ Hid (FqI w bp d t.at_ r.length sn (Rd numV .inner d (t :: r)) n' g c wr) ∧ Hid (UB bp w wr) ∧ Hid (Blk wr w.heap.size 26 zNd)) (fun _ wr => meQ wr bp)
  case atStart => exact ⟨2, _, 2, rfl, HJ, HUc, HXc⟩
  case round =>
    clear HJ HUc HXc HWC
    obtain ⟨n', g, c, rfl, HJ, HUr, HXr⟩ := hrel
    have hxl := HXr.out.lt
    rcases HJ.out with ⟨l, zs, rfl, hql, hgl, hfl, hll, hAr, hEl⟩ | ⟨ba, er, v, r', he, hR9, hP9⟩
    · obtain ⟨v, r', rfl⟩ := hgl.cons
      obtain ⟨b', o', c', n', hnn, hln, hcc, hmm, ⟨c0, c1, c2, c3⟩, ⟨z0, z1, z2, z3⟩, f4, f5, f6⟩ := hql.head
      have hbpl := hql.lt
      have HQL := Lib.hid hql; have HGL := Lib.hid hgl; have HAR := Lib.hid hAr; have HEL := Lib.hid hEl
      simp only [List.length_cons] at hfl hll
      clear hql hgl hAr hEl HJ hnn hln hcc hmm c0 c1 c2 z0 z1 z2 z3 f4 f5 f6
      by_cases hv : isS [125] v = true
      · have HV := Lib.hid hv
        have HGV := Lib.hid (HGL.out.tail (is_k hv))
        have HGO := Lib.hid (goes_yes wr bp v r' [125] HQL.out hv (gt_ne HGL.out (is_k hv)))
        clear hv
        go_wp2_with fail
        refine HGO.out.mono ?_
        rintro e wa ⟨rfl, hpa, hua⟩
        have HPa := Lib.hid hpa; have HUa := Lib.hid (HUr.out.trans hua); have HXa := Lib.hid (HXr.out.upd hua (by omega)); have HAa := Lib.hid (HAR.out.upd hua fun b hb => by omega)
        clear hpa hua HGO c3
        go_wp2_with fail
        refine (node wa 11 t.at_ sn _ _ _).mono ?_
        rintro e wd ⟨rfl, hbd⟩
        have hx := HXa.out.below hbd HXa.out.lt
        obtain ⟨⟨e0, e1, e2, e3, e4, e5⟩, z0, z1, z2, z3, z4, z5⟩ := Blk.c6 hx
        have H1 := Lib.hid hx; have HBD := Lib.hid hbd
        clear hx hbd
        go_wp2_with fail
        refine bodyPost_ret (resNd rfl rfl (Blk.put6 H1.out _ _ _ _ _ _) rfl) rfl ?_
        have hN := (HAa.out.upd (Upd.of_below HBD.out fun _ => False) (fun _ h => h.elim)).node (by omega) 11 t.at_ 0 sn
        exact q_ok (lo := w.heap.size + 1) hlt (Nat.lt_succ_self _) hN (HEL.out _ (is_end HV.out _ _)) (HPa.out.below HBD.out) HGV.out (by simp only [List.length_cons]; omega) (HUa.out.trans (below_UB HBD.out))
      · have hv' : isS [125] v = false := by simpa using hv
        have HV := Lib.hid hv'
        have HGO := Lib.hid (goes_no wr bp 0 0 v r' [125] HQL.out (.inr hv'))
        clear hv hv'
        go_wp2_with fail
        refine HGO.out.mono ?_
        rintro e wa ⟨rfl, hba⟩
        have hra := hba.size
        have HI1 := Lib.hid (H wa bp (d + 1) (v :: r') (by simp only [List.length_cons]; omega) (HQL.out.below hba) HGL.out)
        have HBA := Lib.hid hba
        clear hba HGO c3
        go_wp2_with fail
        refine HI1.out.mono ?_
        rintro e wd ⟨k', a', s', m', A', la', cA', B', lb', cB', rfl, hU, hO⟩
        obtain ⟨we, hwe⟩ : ∃ we, wd.alloc (.cells #[.int .i64 (k' : Int), .string ⟨s'.toArray⟩, .int .u32 (m' : Int), .int .i64 (a' : Int), .slice A' la' cA', .slice B' lb' cB'] 26) = we := ⟨_, rfl⟩
        have hbe : Below wd.heap.size wd we := by rw [← hwe]; exact (Below.refl _ _).alloc (Nat.le_refl _) _
        have hse : we.heap.size = wd.heap.size + 1 := by rw [← hwe]; simp
        have hsd := hU.size
        have hure : UB bp wr we := ((below_UB HBA.out).trans hU).trans (below_UB hbe)
        obtain ⟨css, how, hts⟩ := HAR.out
        have hgg := own_at how
        have HOA := Lib.hid (World.ownsRow.alloc (own_upd3 how hure (by omega)) (.cells #[.int .i64 (k' : Int), .string ⟨s'.toArray⟩, .int .u32 (m' : Int), .int .i64 (a' : Int), .slice A' la' cA', .slice B' lb' cB'] 26))
        have HLI := Lib.hid (lies_full we 26 (ndC k' a' s' m' A' la' cA' B' lb' cB'))
        have HBS := Lib.hid (show w.heap.size + 1 ≤ (we.alloc (.cells #[.int .i64 (k' : Int), .string ⟨s'.toArray⟩, .int .u32 (m' : Int), .int .i64 (a' : Int), .slice A' la' cA', .slice B' lb' cB'] 26)).heap.size by simp; omega)
        have HOW := Lib.hid how; have HTS := Lib.hid hts; have HURE := Lib.hid hure; have HO := Lib.hid hO; have HBE := Lib.hid hbe; have HWE := Lib.hid hwe; have HSE := Lib.hid hse
        have HXe := Lib.hid (HXr.out.upd hure (show ¬ w.heap.size = bp by omega)); have HUe := Lib.hid (HUr.out.trans hure)
        clear how hts hure hU hO hbe hwe
        rw [hse] at HLI
        go_wp2_with (at_builtin; rw [HWE.out]; refine wpList_where rfl _ _ 23 rfl (w.heap.size + 1) 26 i0 (.agg zNd) 6 88 Tryz.underlying23 HI.out HZ0.out HZ1.out HZ2.out rfl (by decide) _ zs.length _ rfl HOA.out ⟨wd.heap.size + 1, 0, none⟩ 1 1 (ndC k' a' s' m' A' la' cA' B' lb' cB') rfl rfl HLI.out (by simp [ndC, Value.oneCell']) (by unfold maxLen; omega) (by omega) HBS.out (by decide) ?_; intro g8 c8 w8' hE; have HE8 := Lib.hid hE; clear hE)
        have hu8 : Upd (fun b => b = g) we w8' := ((Upd.refl (fun b => b = g) we).alloc _).grown HE8.out.grown fun k hk _ => by cases hk; rfl
        have hU8 : UB bp w w8' := (HUe.out.alloc _).grown HE8.out.grown fun k hk hs => by
          cases hk
          exact absurd hs (by show ¬ g < w.heap.size; omega)
        have hJ8 : FqI w bp d t.at_ r.length sn (Rd numV .inner d (t :: r)) (zs.length + 1) g8 c8 w8' ∧ meQ w8' bp < meQ wr bp := by
          have hmr := HQL.out.me
          simp only [List.length_cons] at hmr
          rcases HO.out with ⟨y2, r5, hT, hR, hP, hG, hr⟩ | ⟨ba, er, t5, r5, he, hR, hP⟩
          · have hTe : TIn (fun b => wr.heap.size ≤ b) we y2 (ndC k' a' s' m' A' la' cA' B' lb' cB') := (tup hT (show wr.heap.size ≤ wa.heap.size by omega)).upd (Upd.of_below HBE.out fun _ => False) (fun _ _ h => h)
            have hst := arr_step HOW.out HTS.out (by omega) HURE.out hTe HE8.out
            have hq8 := (hP.below HBE.out).far hu8 fun b hb => by omega
            simp only [List.length_cons] at hr
            refine ⟨.inl ⟨r5, zs ++ [y2], by simp, hq8, hG, by simp; omega, by omega, hst.1, fun o h => HEL.out o (is_go HV.out hR h)⟩, ?_⟩
            have := hq8.me
            omega
          · have hq8 := (hP.below HBE.out).far hu8 fun b hb => by omega
            refine ⟨.inr ⟨ba, er, t5, r5, he, HEL.out _ (is_bad HV.out hR), hq8⟩, ?_⟩
            have := hq8.me0 he
            omega
        have HX8 := Lib.hid (HXe.out.upd hu8 (show ¬ w.heap.size = g by omega)); have HU8 := Lib.hid hU8; have HJ8 := Lib.hid hJ8
        clear hu8 hU8 hJ8
        go_roundw
        case rel => exact ⟨zs.length + 1, g8, c8, rfl, Lib.hid HJ8.out.1, HU8, HX8⟩
        case measure => exact HJ8.out.2
    · obtain ⟨b', o', c', n'', hnn, hln, hcc, hmm, ⟨c0, c1, c2, c3⟩, ⟨z0, z1, z2, z3⟩, f4, f5, f6⟩ := hP9.head
      have hbpl := hP9.lt
      have hwy : ((er : Int) == 0) = false := by simp; omega
      have HP9 := Lib.hid hP9; have HR9 := Lib.hid hR9; have HE9 := Lib.hid he
      clear HJ hP9 hR9 he hnn hln hcc hmm c0 c1 c2 z0 z1 z2 z3 f4 f5 f6
      go_wp2_with fail
      clear c3
      refine (node wr 11 t.at_ sn _ _ _).mono ?_
      rintro e wd ⟨rfl, hbd⟩
      have hx := HXr.out.below hbd HXr.out.lt
      obtain ⟨⟨e0, e1, e2, e3, e4, e5⟩, z0, z1, z2, z3, z4, z5⟩ := Blk.c6 hx
      have H1 := Lib.hid hx; have HBD := Lib.hid hbd
      clear hx hbd
      go_wp2_with fail
      refine bodyPost_ret (resNd rfl rfl (Blk.put6 H1.out _ _ _ _ _ _) rfl) rfl ?_
      exact q_bad 11 t.at_ 0 _ _ 0 0 sn _ none hlt HE9.out HR9.out (HP9.out.below HBD.out) (HUr.out.trans (below_UB HBD.out))
theorem inq : ∀ n, InQ n
  | 0 => fun w bp d l hl _ hg => by
    obtain ⟨t, r, rfl⟩ := hg.cons
    simp at hl
  | n + 1 => fun w bp d l hl hp hg => by
    obtain ⟨t, r, rfl⟩ := hg.cons
    simp only [List.length_cons] at hl
    by_cases hd : 60 < d
    · exact in_letD w bp d t r hp hg hd
    · cases ht : isS [102, 111, 114] t
      · exact in_let w bp d t r hp hg (by omega) ht
      · exact in_for (inq n) w bp d t r (by omega) hp hg (by omega) ht
end Go.Proofs.YtokfmclbninkmaaGreatDoor.Pq
