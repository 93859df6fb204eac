/- DERIVED. The contract of the program's Take. By an AI agent. -/
import Derived.Test.YtgcmbleinobneaaIpTake
namespace Go.Proofs.Ytgcmbleinobneaa.Ip
open Go.ChangeShapes Go.WideShapes Go.ChangeAt Go.RowKit Args ImRef
set_option linter.unusedVariables false
theorem not_in {w : World} {g : Nat} {t : TypeId} {cs : Array Value} {A : Option Addr} {zs : List Int} (hB : Blk w g t cs) (hcs : ∀ (i : Nat) (z : Int), cs[i]? ≠ some (.int .u16 z)) (hL : Lies w A (zs.map (.int .u16))) : ∀ b o, A = some ⟨b, o, none⟩ → 0 < (zs.map (Value.int .u16)).length → b ≠ g := fun b o e hp hb => by
  subst hb
  cases zs with
  | nil => simp at hp
  | cons z r =>
    obtain ⟨b', o', e', _, hc⟩ := hL.at_ (j := 0) (u := .int .u16 z) rfl
    rw [e] at e'
    cases e'
    have h1 := hc 0 (.int .u16 z) rfl
    rw [hB.cell] at h1
    exact hcs _ _ h1
theorem man_u16 (m : Man) (A4 A5 A6 : Option Addr) (c4 c5 c6 : Nat) : ∀ (i : Nat) (z : Int), (manV m A4 A5 A6 c4 c5 c6)[i]? ≠ some (.int .u16 z)
  | 0, z => by simp [manV]
  | 1, z => by simp [manV]
  | 2, z => by simp [manV]
  | 3, z => by simp [manV]
  | 4, z => by simp [manV]
  | 5, z => by simp [manV]
  | 6, z => by simp [manV]
  | i + 7, z => by simp [manV]
/-- A list of cells that lies above block B. -/
def Ls (B : Nat) (w : World) (A : Option Addr) (l : List TI) : Prop := Cs w A l ∧ ∀ b o, A = some ⟨b, o, none⟩ → 0 < l.length → B < b
theorem Ls.nil_ (B : Nat) (w : World) (A : Option Addr) : Ls B w A [] := ⟨⟨Lies.nil _ _, by decide, fun c h => by cases h⟩, fun b o _ h => absurd h (by simp)⟩
theorem Ls.upd {B : Nat} {w w' : World} {A : Option Addr} {l : List TI} {X : Nat → Prop} (h : Ls B w A l) (hu : Upd X w w') (hX : ∀ k, X k → k ≤ B) : Ls B w' A l :=
  ⟨⟨hu.lies h.1.1 fun b o e hp hx => by
      have h1 := h.2 b o e (by rw [cells_len] at hp; omega)
      have := hX b hx
      omega, h.1.2⟩, h.2⟩
theorem Ls.own {B base : Nat} {w : World} {A : Option Addr} {c : Nat} {l : List TI} (h : OwnC base w A c l) (hB : B < base) (hl : l.length ≤ 255) (hs : ∀ x ∈ l, x.s.size ≤ 255) : Ls B w A l :=
  ⟨⟨lies_own h, by omega, fun c hc => by have := hs c hc; omega⟩, fun b o e _ => by
    subst e
    have := (World.ownsRow.lt h b rfl).1
    omega⟩
def zeroV : Array Value := #[.int .i64 0, .int .i64 0, .int .i64 0, .int .i64 0, .slice none 0 0, .slice none 0 0, .slice none 0 0]
theorem nums4 (a b c d : Int) (ps : List Int) (ha : pcn ps 4 0 = a) (hb : pcn ps 4 1 = b) (hc : pcn ps 4 2 = c) (hd : pcn ps 4 3 = d) : setAll zeroV (numsV [0, 1, 2, 3] ps (List.range 4)) = manV ⟨a, b, c, d, [], [], []⟩ none none none 0 0 0 := by
  subst ha hb hc hd
  rfl
theorem cells_any (n₀ r : Nat) (ys : List Int) (e : Int) (w : World) (hR : Rdr n₀ w r ys e) :
    Calls Try.prog 30 #[.pointer (some ⟨r, 0, none⟩)] w (CellsP n₀ w r fun L ys' e' => (e = 0 → (e' = 0 ∧ rdList ys = some (L, ys')) ∨ (e' = 3 ∧ rdList ys = none)) ∧ (e ≠ 0 → e' = e)) := by
  by_cases h : e ≠ 0 ∨ (ys.length : Int) < 1
  · refine (cells_no n₀ r ys e w hR h).mono fun en w' h' => ?_
    obtain ⟨A, c, L, ys', e', h1, h2, h3, h4, h5, h6, h7, h8⟩ := h'
    refine ⟨A, c, L, ys', e', h1, h2, h3, h4, h5, h6, fun he => .inr ⟨?_, ?_⟩, fun he => ?_⟩
    · rw [h8, he]; rfl
    · unfold rdList
      rw [rdNum_no 1 ys (by
        have := h.resolve_left fun h => h he
        omega)]; rfl
    · rw [h8]; exact failE_of e 3 he
  · have he : e = 0 := Decidable.not_not.1 fun h' => h (.inl h')
    have hl : 1 ≤ ys.length := by
      have : ¬ (ys.length : Int) < 1 := fun h' => h (.inr h')
      omega
    subst he
    refine (cells_yes n₀ r ys w hR hl _ rfl).mono fun en w' h' => ?_
    obtain ⟨A, c, L, ys', e', h1, h2, h3, h4, h5, h6, h7⟩ := h'
    refine ⟨A, c, L, ys', e', h1, h2, h3, h4, h5, h6, fun he => ?_, fun he => absurd rfl he⟩
    rw [rdList_at ys hl]
    exact came_end h7
theorem Stand.next {bs : List Int} {e e' : Int} {k : Nat} (hk : k < 3) {m : Man} {zs ys ys' : List Int} {L : List TI} (h : Stand bs e (listsK k m zs ys)) (h0 : e = 0 → (e' = 0 ∧ rdList ys = some (L, ys')) ∨ (e' = 3 ∧ rdList ys = none)) (h1 : e ≠ 0 → e' = e) :
    Stand bs e' (listsK (k + 1) (setK k m L) zs ys') := by
  by_cases he : e = 0
  · rcases h0 he with ⟨rfl, hr⟩ | ⟨rfl, hr⟩
    · exact ⟨fun _ => (h.1 he).trans (lists_yes k hk m zs ys ys' L hr), fun h => absurd rfl h⟩
    · exact ⟨fun h => absurd h (by decide), fun _ => (h.1 he).trans (lists_no k hk m zs ys hr)⟩
  · have := h1 he
    subst this
    exact ⟨fun h => absurd h he, fun _ => h.2 he⟩
theorem sl_upd {w w' : World} {v : Value} {n : Nat} {xs : List Value} {X : Nat → Prop} (h : Sl w v n xs) (hu : Upd X w w') (hX : ∀ A, Lies w A xs → ∀ b o, A = some ⟨b, o, none⟩ → 0 < xs.length → ¬ X b) : Sl w' v n xs := by
  obtain ⟨A, c, e, h1, h2, h3⟩ := h
  exact ⟨A, c, e, h1, h2, hu.lies h3 (hX A h3)⟩
/-- What the loop over the three lists keeps. -/
structure Three (bs : List Int) (n₀ r mB pB : Nat) (W3 : World) (zs : List Int) (v : Value) (wl : World) (k : Nat) (m : Man) (A4 A5 A6 : Option Addr) (c4 c5 c6 : Nat) (ys : List Int) (e : Int) : Prop where
  rdr : Rdr n₀ wl r ys e
  blk : Blk wl mB 25 (manV m A4 A5 A6 c4 c5 c6)
  l4 : Ls mB wl A4 m.se
  l5 : Ls mB wl A5 m.pu
  l6 : Ls mB wl A6 m.ou
  ptr : Blk wl pB 60 (ptrs mB [4, 5, 6])
  upd : Upd (fun g => g = r ∨ g = mB) W3 wl
  stand : Stand bs e (listsK k m zs ys)
  code : e = 0 → Sl wl v zs.length (zs.map (.int .u16))
theorem endE_0 (ys : List Int) (m : Man) (e : Int) (h : endE ys m e = 0) : e = 0 := by
  unfold endE at h
  split at h
  · exact absurd h (failE_nz e 4 (by decide))
  · exact h
theorem zero_u16 : ∀ (i : Nat) (z : Int), zeroV[i]? ≠ some (.int .u16 z)
  | 0, z => by simp [zeroV]
  | 1, z => by simp [zeroV]
  | 2, z => by simp [zeroV]
  | 3, z => by simp [zeroV]
  | 4, z => by simp [zeroV]
  | 5, z => by simp [zeroV]
  | 6, z => by simp [zeroV]
  | i + 7, z => by simp [zeroV]
theorem blk1 {w w' : World} {g : Nat} {t : TypeId} {cs cs' : Array Value} (h : Blk w' g t cs) (hu : Upd (fun q => q = g) w w') (i : Nat) (v : Value) (hc : cs.setIfInBounds i v = cs') : Blk (w'.setCell ⟨g, i, none⟩ v) g t cs' ∧ Upd (fun q => q = g) w (w'.setCell ⟨g, i, none⟩ v) :=
  ⟨hc ▸ h.set i v, hu.setCell (p := ⟨g, i, none⟩) (fun _ => rfl) v⟩
theorem blk7 {w : World} {g : Nat} {t : TypeId} (h : Blk w g t zeroV) (v0 v1 v2 v3 v4 v5 v6 : Value) : Blk (((((((w.setCell ⟨g, 0, none⟩ v0).setCell ⟨g, 1, none⟩ v1).setCell ⟨g, 2, none⟩ v2).setCell ⟨g, 3, none⟩ v3).setCell ⟨g, 4, none⟩ v4).setCell ⟨g, 5, none⟩ v5).setCell ⟨g, 6, none⟩ v6).drew g t #[v0, v1, v2, v3, v4, v5, v6] ∧ Upd (fun q => q = g) w (((((((w.setCell ⟨g, 0, none⟩ v0).setCell ⟨g, 1, none⟩ v1).setCell ⟨g, 2, none⟩ v2).setCell ⟨g, 3, none⟩ v3).setCell ⟨g, 4, none⟩ v4).setCell ⟨g, 5, none⟩ v5).setCell ⟨g, 6, none⟩ v6).drew := by
  obtain ⟨h0, u0⟩ := blk1 (cs' := #[v0, .int .i64 0, .int .i64 0, .int .i64 0, .slice none 0 0, .slice none 0 0, .slice none 0 0]) h (Upd.refl _ w) 0 v0 rfl
  obtain ⟨h1, u1⟩ := blk1 (cs' := #[v0, v1, .int .i64 0, .int .i64 0, .slice none 0 0, .slice none 0 0, .slice none 0 0]) h0 u0 1 v1 rfl
  obtain ⟨h2, u2⟩ := blk1 (cs' := #[v0, v1, v2, .int .i64 0, .slice none 0 0, .slice none 0 0, .slice none 0 0]) h1 u1 2 v2 rfl
  obtain ⟨h3, u3⟩ := blk1 (cs' := #[v0, v1, v2, v3, .slice none 0 0, .slice none 0 0, .slice none 0 0]) h2 u2 3 v3 rfl
  obtain ⟨h4, u4⟩ := blk1 (cs' := #[v0, v1, v2, v3, v4, .slice none 0 0, .slice none 0 0]) h3 u3 4 v4 rfl
  obtain ⟨h5, u5⟩ := blk1 (cs' := #[v0, v1, v2, v3, v4, v5, .slice none 0 0]) h4 u4 5 v5 rfl
  obtain ⟨h6, u6⟩ := blk1 (cs' := #[v0, v1, v2, v3, v4, v5, v6]) h5 u5 6 v6 rfl
  exact ⟨h6.drew, u6.drew⟩
/-- What Take comes to. -/
def TakeR (bs : List Int) (w : World) (en : Ending) (w' : World) : Prop :=
  ∃ v m A4 A5 A6 c4 c5 c6 e zs, en = .returned (.tuple #[v, man m A4 A5 A6 c4 c5 c6, .int .i64 e]) ∧ takeR bs = (e, zs, m) ∧ Sl w' v zs.length (zs.map (.int .u16)) ∧ Cs w' A4 m.se ∧ Cs w' A5 m.pu ∧ Cs w' A6 m.ou ∧ Below w.heap.size w w'
set_option maxRecDepth 100000 in
set_option maxHeartbeats 8000000 in
theorem take (A : Option Addr) (c : Nat) (bs : List Int) (w : World) (hp : Pc w.heap.size w A c bs) :
    Calls Try.prog 14 #[.slice A bs.length c] w (TakeR bs w) := by
  have hb3 := (((Below.refl w.heap.size w).alloc (Nat.le_refl _) (.cells zeroV 25)).alloc (by simp) (.cells #[.slice A bs.length c, .int .i64 0] 56)).alloc (by simp; omega) (.cells zeroV 25)
  have hbr := (Blk.new (w.alloc (.cells zeroV 25)) 56 #[.slice A bs.length c, .int .i64 0]).alloc (.cells zeroV 25)
  have hbm := Blk.new ((w.alloc (.cells zeroV 25)).alloc (.cells #[.slice A bs.length c, .int .i64 0] 56)) 25 zeroV
  have hbz := ((Blk.new w 25 zeroV).alloc (.cells #[.slice A bs.length c, .int .i64 0] 56)).alloc (.cells zeroV 25)
  rw [World.size_alloc] at hbr
  rw [World.size_alloc, World.size_alloc] at hbm
  obtain ⟨W3, hW3⟩ : ∃ W3, W3 = ((w.alloc (.cells zeroV 25)).alloc (.cells #[.slice A bs.length c, .int .i64 0] 56)).alloc (.cells zeroV 25) := ⟨_, rfl⟩
  rw [← hW3] at hb3 hbr hbm hbz
  have hR3 : Rdr w.heap.size W3 (w.heap.size + 1) bs 0 := ⟨A, c, hbr, hp.upd (Upd.of_below hb3 (fun _ => False)) (fun _ h => h.elim), by omega⟩
  have hs3 : W3.heap.size = w.heap.size + 3 := by rw [hW3]; simp
  have HW3 := Lib.hid hW3; have HB3 := Lib.hid hb3; have HR3 := Lib.hid hR3; have HBM := Lib.hid hbm; have HBZ := Lib.hid hbz; have HS3 := Lib.hid hs3
  have HBEG := Lib.hid (begin_any w.heap.size (w.heap.size + 1) bs W3 hR3)
  clear hb3 hbr hbm hbz hR3 hW3 hs3 hp
  go_enter Try.func14, Try.ntmps14
  go_upto_region 3 with fail
  go_cut [15] (fun v wx => ∃ ys e, Hid (Rdr w.heap.size wx (w.heap.size + 1) ys e ∧ Upd (· = w.heap.size + 1) W3 wx ∧ Stand bs e (headR ys)))
  case first =>
    have H := HBEG.out
    rw [HW3.out] at H
    unfold zeroV at H
    go_wp2_with fail
    refine H.mono ?_
    rintro en w1 ⟨⟨v, rfl⟩, ⟨ys, h1, h2⟩, h3⟩
    have G1 := Lib.hid h1; have G2 := Lib.hid h2; have G3 := Lib.hid h3
    clear h1 h2 h3 H
    go_wp2_with fail
    go_meet
    refine ⟨ys, beginE bs, Lib.hid ⟨G1.out, ?_, ?_, ?_⟩⟩
    · rw [HW3.out]; exact G3.out
    · intro h; rw [G2.out h]; exact begin_zero bs h
    · exact begin_bad bs
  case rest =>
    rename World => wx
    obtain ⟨ys, e, HX⟩ := hcut
    go_upto_region 4 with fail
    go_cut [22] (fun v wx => ∃ ys e o s rr ww, Hid (Rdr w.heap.size wx (w.heap.size + 1) ys e ∧ Blk wx (w.heap.size + 1 + 1) 25 (manV ⟨o, s, rr, ww, [], [], []⟩ none none none 0 0 0) ∧ Upd (fun g => g = w.heap.size + 1 ∨ g = w.heap.size + 1 + 1) W3 wx ∧ Stand bs e (numR o s rr ww ys)))
    case first =>
      have hbm := HBM.out.upd HX.out.2.1 (by omega)
      have hxs := HX.out.2.1.size
      have hs3 := HS3.out
      have hbx : Below wx.heap.size wx (wx.alloc (.cells (ptrs (w.heap.size + 1 + 1) [0, 1, 2, 3]) 58)) := (Below.refl _ _).alloc (Nat.le_refl _) _
      by_cases h1 : e ≠ 0 ∨ ys.length < 16
      · have HN := Lib.hid (numbers_no w.heap.size (w.heap.size + 1) ys e (some ⟨wx.heap.size, 0, none⟩) 4 4 _ (HX.out.1.below hbx) (by decide) (h1.imp id (fun h => by omega)))
        have HST : Hid (Stand bs (failE e 3) (numR 0 0 0 0 ys)) := Lib.hid (HX.out.2.2.fail fun he => head_no ys (h1.resolve_left fun h => h he))
        have HBM1 := Lib.hid (hbm.alloc (.cells (ptrs (w.heap.size + 1 + 1) [0, 1, 2, 3]) 58))
        clear hbm hbx h1
        go_wp2_with fail
        refine HN.out.mono ?_
        rintro en w1 ⟨⟨v, rfl⟩, h1, h2⟩
        have G1 := Lib.hid h1; have G2 := Lib.hid h2
        clear h1 h2
        go_wp2_with fail
        go_meet
        exact ⟨ys, failE e 3, 0, 0, 0, 0, Lib.hid ⟨G1.out, HBM1.out.upd G2.out (by omega), (HX.out.2.1.mono fun g h => .inl h).trans (((Upd.refl _ wx).alloc _).trans (G2.out.mono fun g h => .inl h)), HST.out⟩⟩
      · have he : e = 0 := Decidable.not_not.1 fun h => h1 (.inl h)
        have hl : 16 ≤ ys.length := by
          have : ¬ ys.length < 16 := fun h => h1 (.inr h)
          omega
        subst he
        have HN := Lib.hid (numbers_yes w.heap.size (w.heap.size + 1) (w.heap.size + 1 + 1) wx.heap.size ys [0, 1, 2, 3] 25 zeroV _ (HX.out.1.below hbx) (by decide) hl (hbm.alloc _) (Blk.new wx 58 (ptrs (w.heap.size + 1 + 1) [0, 1, 2, 3])) (fun o ho => by simp at ho; rcases ho with rfl | rfl | rfl | rfl <;> decide) (by omega) (by omega) (by omega) (by omega))
        have HST : Hid (Stand bs 0 (numR (numL (ys.take 4)) (numL ((ys.drop 4).take 4)) (numL ((ys.drop 8).take 4)) (numL ((ys.drop 12).take 4)) (ys.drop 16))) := Lib.hid ⟨fun h => by rw [← head_yes ys hl]; exact HX.out.2.2.1 rfl, fun h => absurd rfl h⟩
        clear hbm hbx h1 hl
        go_wp2_with fail
        refine HN.out.mono ?_
        rintro en w1 ⟨⟨v, rfl⟩, h1, h2, h3⟩
        have G1 := Lib.hid h1; have G2 := Lib.hid h2; have G3 := Lib.hid h3
        clear h1 h2 h3
        go_wp2_with fail
        go_meet
        refine ⟨ys.drop 16, 0, _, _, _, _, Lib.hid ⟨G1.out, ?_, (HX.out.2.1.mono fun g h => .inl h).trans (((Upd.refl _ wx).alloc _).trans G3.out), HST.out⟩⟩
        rw [← nums4 (numL (ys.take 4)) (numL ((ys.drop 4).take 4)) (numL ((ys.drop 8).take 4)) (numL ((ys.drop 12).take 4)) (ys.take 16) (pcn16 ys 0 (by decide)) (pcn16 ys 1 (by decide)) (pcn16 ys 2 (by decide)) (pcn16 ys 3 (by decide))]
        exact G2.out
    case rest =>
      rename World => wy
      obtain ⟨ys2, e2, o, s, rr, ww, HY⟩ := hcut
      clear HX HBEG
      go_upto_region 5 with fail
      go_cut [7] (fun v wx => ∃ ys e o s rr ww zs, Hid (Rdr w.heap.size wx (w.heap.size + 1) ys e ∧ Blk wx (w.heap.size + 1 + 1) 25 (manV ⟨o, s, rr, ww, [], [], []⟩ none none none 0 0 0) ∧ Upd (fun g => g = w.heap.size + 1 ∨ g = w.heap.size + 1 + 1) W3 wx ∧ Stand bs e (listsR o s rr ww zs ys) ∧ (e = 0 → Sl wx v zs.length (zs.map (.int .u16)))))
      case first =>
        obtain ⟨hR, hB, hU, hS⟩ := id HY.out
        by_cases h1 : e2 ≠ 0 ∨ (ys2.length : Int) < 4
        · have HC := Lib.hid (code_no w.heap.size (w.heap.size + 1) ys2 e2 wy hR h1)
          have HST : ∀ ys', Stand bs (failE e2 3) (listsR o s rr ww [] ys') := fun ys' => hS.fail fun he => num_no o s rr ww ys2 (by
            have := h1.resolve_left fun h => h he
            omega)
          have HSTT := Lib.hid HST
          clear hR hB hU hS h1 HST
          go_wp2_with fail
          refine HC.out.mono ?_
          rintro en w1 ⟨⟨v, rfl⟩, ⟨ys', h1⟩, h2⟩
          have G1 := Lib.hid h1; have G2 := Lib.hid h2
          clear h1 h2
          go_wp2_with fail
          go_meet
          exact ⟨ys', failE e2 3, o, s, rr, ww, [], Lib.hid ⟨G1.out, HY.out.2.1.upd G2.out (by omega), HY.out.2.2.1.trans (G2.out.mono fun g h => .inl h), HSTT.out ys', fun h => absurd h (failE_nz e2 3 (by decide))⟩⟩
        · have he : e2 = 0 := Decidable.not_not.1 fun h => h1 (.inl h)
          have hl : 4 ≤ ys2.length := by
            have : ¬ (ys2.length : Int) < 4 := fun h => h1 (.inr h)
            omega
          subst he
          have hS0 := hS.1 rfl
          have hnn := (numL_bd (ys2.take 4) (hR.facts.1.take 4)).1
          by_cases hn : 60000 < numL (ys2.take 4)
          · have HC := Lib.hid (code_long w.heap.size (w.heap.size + 1) ys2 wy hR hl hn)
            have HSTT : Hid (takeR bs = bad 2) := Lib.hid (hS0.trans (num_long o s rr ww ys2 hl hn))
            clear hR hB hU hS h1 hS0 hn hnn
            go_wp2_with fail
            refine HC.out.mono ?_
            rintro en w1 ⟨⟨v, rfl⟩, ⟨ys', h1⟩, h2⟩
            have G1 := Lib.hid h1; have G2 := Lib.hid h2
            clear h1 h2
            go_wp2_with fail
            go_meet
            exact ⟨ys', 2, o, s, rr, ww, [], Lib.hid ⟨G1.out, HY.out.2.1.upd G2.out (by omega), HY.out.2.2.1.trans (G2.out.mono fun g h => .inl h), ⟨fun h => absurd h (by decide), fun _ => HSTT.out⟩, fun h => absurd h (by decide)⟩⟩
          · by_cases hsh : (ys2.drop 4).length < 2 * (numL (ys2.take 4)).toNat
            · have HC := Lib.hid (code_short w.heap.size (w.heap.size + 1) ys2 wy hR hl (by omega) (by omega))
              have HSTT : Hid (takeR bs = bad 3) := Lib.hid (hS0.trans (num_short o s rr ww ys2 hl (by omega) hsh))
              clear hR hB hU hS h1 hS0 hn hnn hsh
              go_wp2_with fail
              refine HC.out.mono ?_
              rintro en w1 ⟨⟨v, rfl⟩, ⟨ys', h1⟩, h2⟩
              have G1 := Lib.hid h1; have G2 := Lib.hid h2
              clear h1 h2
              go_wp2_with fail
              go_meet
              exact ⟨ys', 3, o, s, rr, ww, [], Lib.hid ⟨G1.out, HY.out.2.1.upd G2.out (by omega), HY.out.2.2.1.trans (G2.out.mono fun g h => .inl h), ⟨fun h => absurd h (by decide), fun _ => HSTT.out⟩, fun h => absurd h (by decide)⟩⟩
            · have HC := Lib.hid (code_yes w.heap.size (w.heap.size + 1) ys2 wy hR hl _ rfl (by omega) (by omega))
              have HSTT := Lib.hid (hS0.trans (num_yes o s rr ww ys2 hl (by omega) (by omega)))
              clear hR hB hU hS h1 hS0 hn hnn hsh
              go_wp2_with fail
              refine HC.out.mono ?_
              rintro en w1 ⟨v, rfl, hv, h1, h2⟩
              have G0 := Lib.hid hv; have G1 := Lib.hid h1; have G2 := Lib.hid h2
              clear hv h1 h2
              go_wp2_with fail
              go_meet
              exact ⟨_, 0, o, s, rr, ww, _, Lib.hid ⟨G1.out, HY.out.2.1.upd G2.out (by omega), HY.out.2.2.1.trans (G2.out.mono fun g h => .inl h), ⟨fun _ => HSTT.out, fun h => absurd rfl h⟩, fun _ => by rw [halves_len]; exact G0.out⟩⟩
      case rest =>
        rename World => wz
        obtain ⟨ys3, e3, o3, s3, rr3, ww3, zs, HZ⟩ := hcut
        clear HY
        have hzs := HZ.out.2.2.1.size
        have hs3 := HS3.out
        go_wp2_with fail
        go_loopw [30] (fun vi wl => ∃ (k : Nat) (m : Man) (A4 A5 A6 : Option Addr) (c4 c5 c6 : Nat) (ys : List Int) (e : Int), k ≤ 3 ∧ vi = .int .i64 k ∧ Hid (Three bs w.heap.size (w.heap.size + 1) (w.heap.size + 1 + 1) wz.heap.size W3 zs u7 wl k m A4 A5 A6 c4 c5 c6 ys e)) (fun vi _ => 3 - (intOf vi).toNat)
        case atStart =>
          have ha := (Upd.refl (fun _ => False) wz).alloc (.cells (ptrs (w.heap.size + 1 + 1) [4, 5, 6]) 60)
          exact ⟨0, ⟨o3, s3, rr3, ww3, [], [], []⟩, none, none, none, 0, 0, 0, ys3, e3, by omega, rfl, Lib.hid ⟨HZ.out.1.upd ha (fun _ h => h.elim) (fun h => h), HZ.out.2.1.upd ha (fun h => h), Ls.nil_ _ _ _, Ls.nil_ _ _ _, Ls.nil_ _ _ _, Blk.new wz _ _, HZ.out.2.2.1.alloc _, HZ.out.2.2.2.1, fun h => sl_upd (HZ.out.2.2.2.2 h) ha fun _ _ _ _ _ _ h => h⟩⟩
        case round =>
          rename World => wl
          obtain ⟨k, m, A4, A5, A6, c4, c5, c6, ys, e, hk, rfl, HH⟩ := hrel
          by_cases hlt : k < 3
          · obtain ⟨f, hf⟩ : ∃ f, [4, 5, 6][k]? = some f := ⟨_, List.getElem?_eq_getElem (show k < [4, 5, 6].length from hlt)⟩
            have hc0 : wl.cell? ⟨wz.heap.size, k, none⟩ = some (.pointer (some ⟨w.heap.size + 1 + 1, f, none⟩)) := (HH.out.ptr.cell k).trans (ptrs_at _ _ k f hf)
            have HC := Lib.hid (cells_any w.heap.size (w.heap.size + 1) ys e wl HH.out.rdr)
            have hf7 : f = 4 + k := by
              match k, hlt, hf with
              | 0, _, hf => simp at hf; omega
              | 1, _, hf => simp at hf; omega
              | 2, _, hf => simp at hf; omega
            have HF := Lib.hid hf7
            have hwl := HH.out.upd.size
            have hps := HH.out.ptr.lt
            clear hf hf7
            go_wp2_with fail
            refine HC.out.mono ?_
            rintro en w1 ⟨A', c', L, ys', e', rfl, h1, h2, h3, h4, h5, h6, h7⟩
            have hb1 := HH.out.blk.upd h5 (by omega)
            have hfs : f < (manV m A4 A5 A6 c4 c5 c6).size := by
              have := HF.out
              show f < 7
              omega
            obtain ⟨u0, hu0⟩ : ∃ u0, w1.cell? ⟨w.heap.size + 1 + 1, f, none⟩ = some u0 := ⟨_, (hb1.cell f).trans (Array.getElem?_eq_getElem hfs)⟩
            have hfz := hb1.frozen f
            have G1 := Lib.hid h1; have G2 := Lib.hid h2; have G3 := Lib.hid h3; have G4 := Lib.hid h4; have G5 := Lib.hid h5; have G6 := Lib.hid h6; have G7 := Lib.hid h7
            have GB := Lib.hid hb1
            clear h1 h2 h3 h4 h5 h6 h7 hb1 hfs hc0
            go_wp2_with fail
            go_roundw
            case rel =>
              have hu : Upd (fun g => g = w.heap.size + 1 ∨ g = w.heap.size + 1 + 1) wl (w1.setCell ⟨w.heap.size + 1 + 1, f, none⟩ (.slice A' L.length c')) := (G5.out.mono fun g h => .inl h).setCell (p := ⟨w.heap.size + 1 + 1, f, none⟩) (fun _ => .inr rfl) _
              have hu1 : Upd (fun g => g = w.heap.size + 1 + 1) w1 (w1.setCell ⟨w.heap.size + 1 + 1, f, none⟩ (.slice A' L.length c')) := (Upd.refl (fun g => g = w.heap.size + 1 + 1) w1).setCell (p := ⟨w.heap.size + 1 + 1, f, none⟩) (fun _ => rfl) _
              have hr' := G4.out.upd hu1 (fun g hg => by omega) (by omega)
              have hbs := GB.out.set f (.slice A' L.length c')
              have hLs : Ls (w.heap.size + 1 + 1) (w1.setCell ⟨w.heap.size + 1 + 1, f, none⟩ (.slice A' L.length c')) A' L := (Ls.own G1.out (by omega) G2.out G3.out).upd hu1 (fun g hg => by omega)
              have hl4 := HH.out.l4.upd hu (fun g hg => by omega)
              have hl5 := HH.out.l5.upd hu (fun g hg => by omega)
              have hl6 := HH.out.l6.upd hu (fun g hg => by omega)
              have hpt := HH.out.ptr.upd hu (by omega)
              have hst := HH.out.stand.next hlt G6.out G7.out
              have hcd : e' = 0 → Sl (w1.setCell ⟨w.heap.size + 1 + 1, f, none⟩ (.slice A' L.length c')) u7 zs.length (zs.map (.int .u16)) := fun he' => by
                have he : e = 0 := Decidable.not_not.1 fun h => h ((G7.out h).symm.trans he')
                refine sl_upd (HH.out.code he) hu fun A hA b o hb hp => ?_
                rintro (h | h)
                · obtain ⟨Ar, cr, hbr, _⟩ := HH.out.rdr
                  refine not_in hbr (fun i z => ?_) hA b o hb hp h
                  match i with
                  | 0 => simp
                  | 1 => simp
                  | i + 2 => simp
                · exact not_in HH.out.blk (man_u16 _ _ _ _ _ _ _) hA b o hb hp h
              have hff := HF.out
              have hup := HH.out.upd.trans hu
              clear hlt
              have hk3 : k = 0 ∨ k = 1 ∨ k = 2 := by omega
              rcases hk3 with rfl | rfl | rfl
              · subst hff
                exact ⟨1, setK 0 m L, A', A5, A6, c', c5, c6, ys', e', by omega, by go_num, Lib.hid ⟨hr', hbs, hLs, hl5, hl6, hpt, hup, hst, hcd⟩⟩
              · subst hff
                exact ⟨2, setK 1 m L, A4, A', A6, c4, c', c6, ys', e', by omega, by go_num, Lib.hid ⟨hr', hbs, hl4, hLs, hl6, hpt, hup, hst, hcd⟩⟩
              · subst hff
                exact ⟨3, setK 2 m L, A4, A5, A', c4, c5, c', ys', e', by omega, by go_num, Lib.hid ⟨hr', hbs, hl4, hl5, hLs, hpt, hup, hst, hcd⟩⟩
            case measure => simp [intOf]; omega
          · have hk3 : k = 3 := by omega
            have hT := HH.out
            rw [hk3] at hT
            have HT := Lib.hid hT
            have b0 : wl.cell? ⟨w.heap.size + 1 + 1, 0, none⟩ = some (.int .i64 m.o) := hT.blk.cell 0
            have b1 : wl.cell? ⟨w.heap.size + 1 + 1, 1, none⟩ = some (.int .i64 m.s) := hT.blk.cell 1
            have b2 : wl.cell? ⟨w.heap.size + 1 + 1, 2, none⟩ = some (.int .i64 m.r) := hT.blk.cell 2
            have b3 : wl.cell? ⟨w.heap.size + 1 + 1, 3, none⟩ = some (.int .i64 m.w) := hT.blk.cell 3
            have b4 : wl.cell? ⟨w.heap.size + 1 + 1, 4, none⟩ = some (.slice A4 m.se.length c4) := hT.blk.cell 4
            have b5 : wl.cell? ⟨w.heap.size + 1 + 1, 5, none⟩ = some (.slice A5 m.pu.length c5) := hT.blk.cell 5
            have b6 : wl.cell? ⟨w.heap.size + 1 + 1, 6, none⟩ = some (.slice A6 m.ou.length c6) := hT.blk.cell 6
            have HE := Lib.hid (end_any w.heap.size (w.heap.size + 1) ys e m A4 A5 A6 c4 c5 c6 wl hT.rdr hT.l4.1 hT.l5.1 hT.l6.1)
            have hge : 3 ≤ k := by omega
            clear hT HH hlt hk3
            go_wp2_with fail
            refine HE.out.mono ?_
            rintro en w1 ⟨⟨v, rfl⟩, h1, h2⟩
            obtain ⟨Ar, cr, hbr, _, _⟩ := id h1
            have hee : w1.cell? ⟨w.heap.size + 1, 1, none⟩ = some (.int .i64 (endE ys m e)) := hbr.cell 1
            have hbz := (HBZ.out.upd HT.out.upd (by omega)).upd h2 (by omega)
            have hbm := HT.out.blk.upd h2 (by omega)
            have G1 := Lib.hid h1; have G2 := Lib.hid h2; have GZ := Lib.hid hbz; have GM := Lib.hid hbm
            have HST := Lib.hid (HT.out.stand.end_)
            have HF0' : Hid (endE ys m e = 0 → e = 0) := Lib.hid (endE_0 ys m e)
            clear h1 h2 hbr hbz hbm b0 b1 b2 b3 b4 b5 b6
            generalize endE ys m e = f at *
            have b0 : w1.cell? ⟨w.heap.size + 1 + 1, 0, none⟩ = some (.int .i64 m.o) := GM.out.cell 0
            have b1 : w1.cell? ⟨w.heap.size + 1 + 1, 1, none⟩ = some (.int .i64 m.s) := GM.out.cell 1
            have b2 : w1.cell? ⟨w.heap.size + 1 + 1, 2, none⟩ = some (.int .i64 m.r) := GM.out.cell 2
            have b3 : w1.cell? ⟨w.heap.size + 1 + 1, 3, none⟩ = some (.int .i64 m.w) := GM.out.cell 3
            have b4 : w1.cell? ⟨w.heap.size + 1 + 1, 4, none⟩ = some (.slice A4 m.se.length c4) := GM.out.cell 4
            have b5 : w1.cell? ⟨w.heap.size + 1 + 1, 5, none⟩ = some (.slice A5 m.pu.length c5) := GM.out.cell 5
            have b6 : w1.cell? ⟨w.heap.size + 1 + 1, 6, none⟩ = some (.slice A6 m.ou.length c6) := GM.out.cell 6
            have z0 : w1.cell? ⟨w.heap.size, 0, none⟩ = some (.int .i64 0) := GZ.out.cell 0
            have z1 : w1.cell? ⟨w.heap.size, 1, none⟩ = some (.int .i64 0) := GZ.out.cell 1
            have z2 : w1.cell? ⟨w.heap.size, 2, none⟩ = some (.int .i64 0) := GZ.out.cell 2
            have z3 : w1.cell? ⟨w.heap.size, 3, none⟩ = some (.int .i64 0) := GZ.out.cell 3
            have z4 : w1.cell? ⟨w.heap.size, 4, none⟩ = some (.slice none 0 0) := GZ.out.cell 4
            have z5 : w1.cell? ⟨w.heap.size, 5, none⟩ = some (.slice none 0 0) := GZ.out.cell 5
            have z6 : w1.cell? ⟨w.heap.size, 6, none⟩ = some (.slice none 0 0) := GZ.out.cell 6
            have y0 := GZ.out.frozen 0
            have y1 := GZ.out.frozen 1
            have y2 := GZ.out.frozen 2
            have y3 := GZ.out.frozen 3
            have y4 := GZ.out.frozen 4
            have y5 := GZ.out.frozen 5
            have y6 := GZ.out.frozen 6
            by_cases hf : f = 0
            · subst hf
              have HF0 := Lib.hid (HF0'.out rfl)
              go_wp2_with fail
              go_region
              obtain ⟨hQ, hU⟩ := blk7 GZ.out (Value.int .i64 m.o) (Value.int .i64 m.s) (Value.int .i64 m.r) (Value.int .i64 m.w) (Value.slice A4 m.se.length c4) (Value.slice A5 m.pu.length c5) (Value.slice A6 m.ou.length c6)
              obtain ⟨WW, hWW⟩ : ∃ WW, WW = (((((((w1.setCell ⟨w.heap.size, 0, none⟩ (Value.int .i64 m.o)).setCell ⟨w.heap.size, 1, none⟩ (Value.int .i64 m.s)).setCell ⟨w.heap.size, 2, none⟩ (Value.int .i64 m.r)).setCell ⟨w.heap.size, 3, none⟩ (Value.int .i64 m.w)).setCell ⟨w.heap.size, 4, none⟩ (Value.slice A4 m.se.length c4)).setCell ⟨w.heap.size, 5, none⟩ (Value.slice A5 m.pu.length c5)).setCell ⟨w.heap.size, 6, none⟩ (Value.slice A6 m.ou.length c6)).drew := ⟨_, rfl⟩
              rw [← hWW] at hQ hU ⊢
              clear hWW
              have r0 : WW.cell? ⟨w.heap.size, 0, none⟩ = some (Value.int .i64 m.o) := hQ.cell 0
              have r1 : WW.cell? ⟨w.heap.size, 1, none⟩ = some (Value.int .i64 m.s) := hQ.cell 1
              have r2 : WW.cell? ⟨w.heap.size, 2, none⟩ = some (Value.int .i64 m.r) := hQ.cell 2
              have r3 : WW.cell? ⟨w.heap.size, 3, none⟩ = some (Value.int .i64 m.w) := hQ.cell 3
              have r4 : WW.cell? ⟨w.heap.size, 4, none⟩ = some (Value.slice A4 m.se.length c4) := hQ.cell 4
              have r5 : WW.cell? ⟨w.heap.size, 5, none⟩ = some (Value.slice A5 m.pu.length c5) := hQ.cell 5
              have r6 : WW.cell? ⟨w.heap.size, 6, none⟩ = some (Value.slice A6 m.ou.length c6) := hQ.cell 6
              have HU := Lib.hid hU
              clear hQ hU b0 b1 b2 b3 b4 b5 b6 z0 z1 z2 z3 z4 z5 z6 y0 y1 y2 y3 y4 y5 y6 hee
              dsimp only [Exit.then]
              go_wp2_with fail
              have hbw : Below w.heap.size w WW := (HB3.out.trans ((HT.out.upd.below (by omega) (fun g hg => by omega)).trans ((G2.out.below (by have := HT.out.upd.size; omega) (fun g hg => by omega)).trans (HU.out.below (by have := HT.out.upd.size; have := G2.out.size; omega) (fun g hg => by omega)))))
              have hcd : Sl WW u7 zs.length (zs.map (.int .u16)) := by
                have he : e = 0 := HF0.out
                have h1 := sl_upd (HT.out.code he) G2.out fun A hA b o hb hp h => by
                  obtain ⟨Ar, cr, hbr, _⟩ := HT.out.rdr
                  refine not_in hbr (fun i z => ?_) hA b o hb hp h
                  match i with
                  | 0 => simp
                  | 1 => simp
                  | i + 2 => simp
                exact sl_upd h1 HU.out fun A hA b o hb hp h => not_in GZ.out (fun i z => zero_u16 i z) hA b o hb hp h
              have k4 := ((HT.out.l4.upd G2.out (fun g hg => by omega)).upd HU.out (fun g hg => by omega)).1
              have k5 := ((HT.out.l5.upd G2.out (fun g hg => by omega)).upd HU.out (fun g hg => by omega)).1
              have k6 := ((HT.out.l6.upd G2.out (fun g hg => by omega)).upd HU.out (fun g hg => by omega)).1
              exact bodyPost_ret (v := .tuple #[u7, man m A4 A5 A6 c4 c5 c6, .int .i64 0]) (by simp [results, Try.results14, go_sem, r0, r1, r2, r3, r4, r5, r6]) rfl ⟨u7, m, A4, A5, A6, c4, c5, c6, 0, zs, rfl, HST.out.1 trivial, hcd, k4, k5, k6, hbw⟩
            · have hfb : (f != 0) = true := by simp [hf]
              go_wp2_with fail
              go_region
              obtain ⟨hQ, hU⟩ := blk7 GZ.out (Value.int .i64 0) (Value.int .i64 0) (Value.int .i64 0) (Value.int .i64 0) (Value.slice none 0 0) (Value.slice none 0 0) (Value.slice none 0 0)
              obtain ⟨WW, hWW⟩ : ∃ WW, WW = (((((((w1.setCell ⟨w.heap.size, 0, none⟩ (Value.int .i64 0)).setCell ⟨w.heap.size, 1, none⟩ (Value.int .i64 0)).setCell ⟨w.heap.size, 2, none⟩ (Value.int .i64 0)).setCell ⟨w.heap.size, 3, none⟩ (Value.int .i64 0)).setCell ⟨w.heap.size, 4, none⟩ (Value.slice none 0 0)).setCell ⟨w.heap.size, 5, none⟩ (Value.slice none 0 0)).setCell ⟨w.heap.size, 6, none⟩ (Value.slice none 0 0)).drew := ⟨_, rfl⟩
              rw [← hWW] at hQ hU ⊢
              clear hWW
              have r0 : WW.cell? ⟨w.heap.size, 0, none⟩ = some (Value.int .i64 0) := hQ.cell 0
              have r1 : WW.cell? ⟨w.heap.size, 1, none⟩ = some (Value.int .i64 0) := hQ.cell 1
              have r2 : WW.cell? ⟨w.heap.size, 2, none⟩ = some (Value.int .i64 0) := hQ.cell 2
              have r3 : WW.cell? ⟨w.heap.size, 3, none⟩ = some (Value.int .i64 0) := hQ.cell 3
              have r4 : WW.cell? ⟨w.heap.size, 4, none⟩ = some (Value.slice none 0 0) := hQ.cell 4
              have r5 : WW.cell? ⟨w.heap.size, 5, none⟩ = some (Value.slice none 0 0) := hQ.cell 5
              have r6 : WW.cell? ⟨w.heap.size, 6, none⟩ = some (Value.slice none 0 0) := hQ.cell 6
              have HU := Lib.hid hU
              clear hQ hU b0 b1 b2 b3 b4 b5 b6 z0 z1 z2 z3 z4 z5 z6 y0 y1 y2 y3 y4 y5 y6 hee
              dsimp only [Exit.then]
              go_wp2_with fail
              have hbw : Below w.heap.size w WW := (HB3.out.trans ((HT.out.upd.below (by omega) (fun g hg => by omega)).trans ((G2.out.below (by have := HT.out.upd.size; omega) (fun g hg => by omega)).trans (HU.out.below (by have := HT.out.upd.size; have := G2.out.size; omega) (fun g hg => by omega)))))
              exact bodyPost_ret (v := .tuple #[.slice none 0 0, man man0 none none none 0 0 0, .int .i64 f]) (by simp [results, Try.results14, go_sem, r0, r1, r2, r3, r4, r5, r6, man0]) rfl ⟨.slice none 0 0, man0, none, none, none, 0, 0, 0, f, [], rfl, HST.out.2 hf, ⟨none, 0, rfl, Nat.le_refl _, by decide, Lies.nil _ _⟩, Cs.none_ _, Cs.none_ _, Cs.none_ _, hbw⟩
end Go.Proofs.Ytgcmbleinobneaa.Ip
