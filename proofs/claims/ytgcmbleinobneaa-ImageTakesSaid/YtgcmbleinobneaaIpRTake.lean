/- DERIVED. The reference's Take: a number, a list, whether there or not; the mark; how it stands. By an AI agent. -/
import Derived.Test.YtgcmbleinobneaaIpRList
namespace Go.Proofs.Ytgcmbleinobneaa.Ip
open Go.ChangeShapes Go.WideShapes Go.ChangeAt Go.RowKit Args ImRef
set_option linter.unusedVariables false
/-- A slice of bytes that lie below n₀ (Pc without what is known of its address). -/
structure Pb (n₀ : Nat) (w : World) (A : Option Addr) (c : Nat) (ps : List Int) : Prop where
  cap : ps.length ≤ c
  max : c ≤ maxLen
  lies : Lies w A (ps.map (.int .u8))
  low : ∀ b o, A = some ⟨b, o, none⟩ → 0 < ps.length → b < n₀
  byte : ∀ z ∈ ps, 0 ≤ z ∧ z < 256
  reach : ps.length ≤ 140737488351232
theorem Pb.upd {n₀ c : Nat} {w w' : World} {A : Option Addr} {ps : List Int} {X : Nat → Prop} (h : Pb n₀ w A c ps) (hu : Upd X w w') (hX : ∀ k, X k → n₀ ≤ k) : Pb n₀ w' A c ps :=
  ⟨h.cap, h.max, hu.lies h.lies fun b o e hp hx => by have h1 := h.low b o e (by simpa using hp); have := hX b hx; omega, h.low, h.byte, h.reach⟩
def NumS (k : Nat) (ys : List Int) (sh : Bool) (x : Int) (ys' : List Int) (sh' : Bool) : Prop :=
  (sh = false ∧ sh' = false ∧ rdNum k ys = some (x, ys')) ∨ (sh' = true ∧ x = 0 ∧ (sh = false → rdNum k ys = none))
def RnumR (n₀ r : Nat) (A : Option Addr) (c : Nat) (bs : List Int) (k : Nat) (ys : List Int) (sh : Bool) (w : World) (en : Ending) (w' : World) : Prop :=
  ∃ x at' sh', en = .returned (.int .i64 x) ∧ RR n₀ w' r A c bs at' sh' ∧ Upd (· = r) w w' ∧ 0 ≤ x ∧ x < 256 ^ k ∧ NumS k ys sh x (bs.drop at') sh'
theorem rnum_any (n₀ r : Nat) (A : Option Addr) (c : Nat) (bs : List Int) (at_ : Nat) (sh : Bool) (k : Nat) (z : Int) (hz : z = k) (hk : k ≤ 4) (w : World) (hR : RR n₀ w r A c bs at_ sh) :
    Calls Try.prog 33 #[.pointer (some ⟨r, 0, none⟩), .int .i64 z] w (RnumR n₀ r A c bs k (bs.drop at_) sh w) := by
  have hat := hR.at_le
  by_cases h : sh = true ∨ (bs.length : Int) - at_ < z
  · refine (ImRef.num_no n₀ r A c bs at_ sh z w hR (by omega) (by omega) h).mono ?_
    rintro en w' ⟨rfl, h1, h2⟩
    have h256 : (0 : Int) < 256 ^ k := by
      have : k = 0 ∨ k = 1 ∨ k = 2 ∨ k = 3 ∨ k = 4 := by omega
      rcases this with h | h | h | h | h <;> rw [h] <;> decide
    refine ⟨0, at_, true, rfl, h1, h2, Int.le_refl _, h256, .inr ⟨rfl, rfl, fun hs => ?_⟩⟩
    rcases h with h | h
    · rw [hs] at h; cases h
    · exact rdNum_no k _ (by rw [List.length_drop]; omega)
  · have hs : sh = false := by
      cases sh with
      | true => exact absurd (.inl rfl) h
      | false => rfl
    have hl : at_ + k ≤ bs.length := by
      have : ¬ (bs.length : Int) - at_ < z := fun h' => h (.inr h')
      omega
    subst hs
    have hbd := numL_bd ((bs.drop at_).take k) ((hR.byte.drop at_).take k)
    rw [List.length_take, List.length_drop, Nat.min_eq_left (by omega)] at hbd
    refine (ImRef.num_yes n₀ r A c bs at_ z k w hR hz hk hl).mono ?_
    rintro en w' ⟨rfl, h1, h2⟩
    refine ⟨_, at_ + k, false, rfl, h1, h2, hbd.1, hbd.2, .inl ⟨rfl, rfl, ?_⟩⟩
    rw [rdNum_at k _ (by rw [List.length_drop]; omega), List.drop_drop]
def numThen (k : Nat) (ys : List Int) (f : Int → List Int → Res) : Res := match rdNum k ys with
  | none => bad 3
  | some p => f p.1 p.2
theorem stand_num {bs : List Int} {k : Nat} {ys ys' : List Int} {sh sh' : Bool} {x : Int} {f : Int → List Int → Res} (h : NumS k ys sh x ys' sh') (hs : Stand bs (shE sh) (numThen k ys f)) : Stand bs (shE sh') (f x ys') := by
  rcases h with ⟨rfl, rfl, h⟩ | ⟨rfl, rfl, h⟩
  · have h1 := hs.1 rfl
    unfold numThen at h1
    rw [h] at h1
    exact ⟨fun _ => h1, fun h => absurd rfl h⟩
  · refine ⟨fun h => absurd h (by decide), fun _ => ?_⟩
    cases sh with
    | false =>
      have h1 := hs.1 rfl
      unfold numThen at h1
      rw [h rfl] at h1
      exact h1
    | true => exact hs.2 (by decide)
def h5 (o s r w : Int) (ys : List Int) : Res := numThen 4 ys fun n y => codeR o s r w n y
def h4 (o s r : Int) (ys : List Int) : Res := numThen 4 ys fun w y => h5 o s r w y
def h3 (o s : Int) (ys : List Int) : Res := numThen 4 ys fun r y => h4 o s r y
def h2 (o : Int) (ys : List Int) : Res := numThen 4 ys fun s y => h3 o s y
theorem head_then (ys : List Int) : headR ys = numThen 4 ys h2 := by
  unfold headR numThen h2
  rcases rdNum 4 ys with _ | ⟨o, y1⟩
  · rfl
  dsimp only
  unfold numThen h3
  rcases rdNum 4 y1 with _ | ⟨s, y2⟩
  · rfl
  dsimp only
  unfold numThen h4
  rcases rdNum 4 y2 with _ | ⟨r, y3⟩
  · rfl
  dsimp only
  unfold numThen h5
  rcases rdNum 4 y3 with _ | ⟨w, y4⟩
  · rfl
  dsimp only
  unfold numThen
  rcases rdNum 4 y4 with _ | ⟨n, y5⟩
  · rfl
  rfl
theorem pre_short (bs : List Int) (i : Nat) (h : bs.take i = msk1.take i) (hi : i < 4) (hl : bs.length = i) : takeR bs = bad 3 := by
  subst hl
  unfold takeR
  rw [List.take_length] at h
  rw [if_neg (fun hn => hn (by rw [List.take_of_length_le (by omega)]; exact h)), if_pos hi]
theorem pre_bad (bs : List Int) (i : Nat) (x y : Int) (hx : bs[i]? = some x) (hm : msk1[i]? = some y) (hne : x ≠ y) : takeR bs = bad 4 := by
  unfold takeR
  have hi4 : i < 4 := (List.getElem?_eq_some_iff.1 hm).1
  have hil : i < bs.length := (List.getElem?_eq_some_iff.1 hx).1
  rw [if_pos]
  intro he
  have := congrArg (fun l : List Int => l[i]?) he
  simp only [List.getElem?_take, if_pos hi4, if_pos hil, hx, hm] at this
  exact hne (Option.some.inj this)
theorem pre_all (bs : List Int) (h : bs.take 4 = msk1.take 4) : takeR bs = headR (bs.drop 4) ∧ 4 ≤ bs.length := by
  have hl := congrArg List.length h
  rw [List.length_take] at hl
  have h4 : (msk1.take 4).length = 4 := rfl
  rw [h4] at hl
  have hlen : 4 ≤ bs.length := by omega
  refine ⟨?_, hlen⟩
  unfold takeR
  rw [if_neg, if_neg (by omega)]
  intro hn
  apply hn
  rw [h, List.take_of_length_le (show msk1.length ≤ bs.length from hlen)]; rfl
theorem take_next (bs : List Int) (i : Nat) (x : Int) (h : bs.take i = msk1.take i) (hx : bs[i]? = some x) (hm : msk1[i]? = some x) : bs.take (i + 1) = msk1.take (i + 1) := by
  rw [List.take_add_one, List.take_add_one, h, hx, hm]
theorem halves_snoc : ∀ (k : Nat) (ys : List Int), halves (k + 1) ys = halves k ys ++ [numL ((ys.drop (2 * k)).take 2)]
  | 0, ys => by simp [halves]
  | k + 1, ys => by
    rw [halves, halves_snoc k (ys.drop 2), halves, List.drop_drop, show 2 + 2 * k = 2 * (k + 1) by omega]; rfl
/-- How far the halves have come. -/
def HalvesC (N : Nat) (Y : List Int) (k : Nat) (zs ys : List Int) (sh : Bool) : Prop := (sh = false ∧ 2 * k ≤ Y.length ∧ zs = halves k Y ∧ ys = Y.drop (2 * k)) ∨ (sh = true ∧ rdHalves N Y = none)
theorem HalvesC.next {N k : Nat} {Y zs ys ys' : List Int} {sh sh' : Bool} {x : Int} (h : HalvesC N Y k zs ys sh) (hk : k < N) (hn : NumS 2 ys sh x ys' sh') : HalvesC N Y (k + 1) (zs ++ [x]) ys' sh' := by
  rcases h with ⟨rfl, h1, rfl, rfl⟩ | ⟨rfl, h1⟩
  · rcases hn with ⟨_, rfl, h⟩ | ⟨rfl, rfl, h⟩
    · unfold rdNum at h
      split at h
      · cases h
      · rename_i hl
        rw [List.length_drop] at hl
        obtain ⟨q1, q2⟩ := Prod.mk.inj (Option.some.inj h)
        refine .inl ⟨rfl, by omega, ?_, ?_⟩
        · rw [halves_snoc, q1]
        · rw [← q2, List.drop_drop]; rfl
    · refine .inr ⟨rfl, ?_⟩
      have h2 := h rfl
      unfold rdNum at h2
      split at h2
      · rename_i hl
        rw [List.length_drop] at hl
        unfold rdHalves
        rw [if_pos (by omega)]
      · cases h2
  · rcases hn with ⟨h, _⟩ | ⟨rfl, _⟩
    · cases h
    · exact .inr ⟨rfl, h1⟩
theorem HalvesC.stand {bs Y zs ys : List Int} {N : Nat} {n o s r w : Int} {sh0 sh : Bool} (hN : N = n.toNat) (h6 : n ≤ 60000) (hst : Stand bs (shE sh0) (codeR o s r w n Y)) (h0 : sh0 = true → sh = true) (hs : sh0 = false → HalvesC N Y N zs ys sh) : Stand bs (shE sh) (listsR o s r w zs ys) := by
  cases sh0 with
  | true =>
    rw [h0 rfl]
    exact ⟨fun h => absurd h (by decide), fun _ => hst.2 (by decide)⟩
  | false =>
    have h1 := hst.1 rfl
    unfold codeR at h1
    rw [if_neg (by omega), ← hN] at h1
    rcases hs rfl with ⟨rfl, q1, rfl, rfl⟩ | ⟨rfl, q1⟩
    · unfold rdHalves at h1
      rw [if_neg (by omega)] at h1
      exact ⟨fun _ => h1, fun h => absurd rfl h⟩
    · rw [q1] at h1
      exact ⟨fun h => absurd h (by decide), fun _ => h1⟩
theorem rlist_any (n₀ r : Nat) (A : Option Addr) (c : Nat) (bs : List Int) (at_ : Nat) (sh : Bool) (w : World) (hR : RR n₀ w r A c bs at_ sh) :
    Calls Try.prog 34 #[.pointer (some ⟨r, 0, none⟩)] w (ListR n₀ r A c bs w fun L at' sh' => (shE sh = 0 → (shE sh' = 0 ∧ rdList (bs.drop at_) = some (L, bs.drop at')) ∨ (shE sh' = 3 ∧ rdList (bs.drop at_) = none)) ∧ (shE sh ≠ 0 → shE sh' = shE sh)) := by
  by_cases h : sh = true ∨ (bs.length : Int) - at_ < 1
  · refine (rlist_no n₀ r A c bs at_ sh w hR h).mono fun en w' h' => ?_
    obtain ⟨A', c', L, at', sh', h1, h2, h3, h4, h5, h6, rfl, rfl⟩ := h'
    refine ⟨A', c', [], at', true, h1, h2, h3, h4, h5, h6, fun he => .inr ⟨rfl, ?_⟩, fun he => ?_⟩
    · unfold rdList
      rw [rdNum_no 1 _ (by
        have : ¬ sh = true := fun h => by rw [h] at he; cases he
        have := h.resolve_left this
        rw [List.length_drop]; omega)]; rfl
    · cases sh with
      | true => rfl
      | false => exact absurd rfl he
  · have hs : sh = false := by
      cases sh with
      | true => exact absurd (.inl rfl) h
      | false => rfl
    have hl : at_ + 1 ≤ bs.length := by
      have : ¬ (bs.length : Int) - at_ < 1 := fun h' => h (.inr h')
      omega
    subst hs
    refine (rlist_yes n₀ r A c bs at_ w hR hl _ rfl).mono fun en w' h' => ?_
    obtain ⟨A', c', L, at', sh', h1, h2, h3, h4, h5, h6, h7⟩ := h'
    refine ⟨A', c', L, at', sh', h1, h2, h3, h4, h5, h6, fun he => ?_, fun he => absurd rfl he⟩
    rw [rdList_at _ (by rw [List.length_drop]; omega), List.drop_drop]
    exact came_end h7
theorem own_upd2 {X : Nat → Prop} {w w' : World} {base : Nat} {e : TypeId} {size n : Nat} {v : Value} {xs : List Value} (h : w.ownsRow base e size v n xs) (hu : Upd X w w') (hX : ∀ (g : Nat) (cur : Array Value), Blk w g e cur → ¬ X g) : w'.ownsRow base e size v n xs := by
  refine ⟨h.1, h.2.imp id fun ⟨g, cap, cur, e1, hb, hh, r⟩ => ⟨g, cap, cur, e1, hb, ?_, r⟩⟩
  have hl := (Array.getElem?_eq_some_iff.1 hh).1
  exact (hu.block g hl (hX g cur hh)).trans hh
theorem blk_ne {w : World} {g : Nat} {t e : TypeId} {cs cur : Array Value} (h : Blk w g t cs) (k : Blk w g e cur) : t = e := by
  have := h.symm.trans k
  injection this with this
  injection this
theorem own_not {w : World} {base : Nat} {e t : TypeId} {size n : Nat} {v : Value} {xs : List Value} {g : Nat} {cs : Array Value} (h : w.ownsRow base e size v n xs) (hB : Blk w g t cs) (hne : t ≠ e) : ¬ v.ownBlock = some g := fun hq => by
  rcases h.2 with ⟨rfl, _⟩ | ⟨g', cap, cur, rfl, _, hh, _⟩
  · cases hq
  · have : g' = g := Option.some.inj hq
    subst this
    exact hne (blk_ne hB hh)
theorem blk7p {w : World} {g : Nat} {t : TypeId} (h : Blk w g t zeroV) (v0 v1 v2 v3 v4 v5 v6 : Value) : Blk (((((((w.setCell ⟨g, 0, none⟩ v0).setCell ⟨g, 1, none⟩ v1).setCell ⟨g, 2, none⟩ v2).setCell ⟨g, 3, none⟩ v3).setCell ⟨g, 4, none⟩ v4).setCell ⟨g, 5, none⟩ v5).setCell ⟨g, 6, none⟩ v6) g t #[v0, v1, v2, v3, v4, v5, v6] ∧ Upd (fun q => q = g) w (((((((w.setCell ⟨g, 0, none⟩ v0).setCell ⟨g, 1, none⟩ v1).setCell ⟨g, 2, none⟩ v2).setCell ⟨g, 3, none⟩ v3).setCell ⟨g, 4, none⟩ v4).setCell ⟨g, 5, none⟩ v5).setCell ⟨g, 6, none⟩ v6) := by
  obtain ⟨h0, u0⟩ := blk1 (cs' := #[v0, .int .i64 0, .int .i64 0, .int .i64 0, .slice none 0 0, .slice none 0 0, .slice none 0 0]) h (Upd.refl _ w) 0 v0 rfl
  obtain ⟨h1, u1⟩ := blk1 (cs' := #[v0, v1, .int .i64 0, .int .i64 0, .slice none 0 0, .slice none 0 0, .slice none 0 0]) h0 u0 1 v1 rfl
  obtain ⟨h2, u2⟩ := blk1 (cs' := #[v0, v1, v2, .int .i64 0, .slice none 0 0, .slice none 0 0, .slice none 0 0]) h1 u1 2 v2 rfl
  obtain ⟨h3, u3⟩ := blk1 (cs' := #[v0, v1, v2, v3, .slice none 0 0, .slice none 0 0, .slice none 0 0]) h2 u2 3 v3 rfl
  obtain ⟨h4, u4⟩ := blk1 (cs' := #[v0, v1, v2, v3, v4, .slice none 0 0, .slice none 0 0]) h3 u3 4 v4 rfl
  obtain ⟨h5, u5⟩ := blk1 (cs' := #[v0, v1, v2, v3, v4, v5, .slice none 0 0]) h4 u4 5 v5 rfl
  obtain ⟨h6, u6⟩ := blk1 (cs' := #[v0, v1, v2, v3, v4, v5, v6]) h5 u5 6 v6 rfl
  exact ⟨h6, u6⟩
theorem zero7 {w : World} {g : Nat} {t : TypeId} (h : Blk w g t zeroV) : (w.cell? ⟨g, 0, none⟩ = some (.int .i64 0) ∧ w.cell? ⟨g, 1, none⟩ = some (.int .i64 0) ∧ w.cell? ⟨g, 2, none⟩ = some (.int .i64 0) ∧ w.cell? ⟨g, 3, none⟩ = some (.int .i64 0) ∧ w.cell? ⟨g, 4, none⟩ = some (.slice none 0 0) ∧ w.cell? ⟨g, 5, none⟩ = some (.slice none 0 0) ∧ w.cell? ⟨g, 6, none⟩ = some (.slice none 0 0)) ∧
    (w.frozen? ⟨g, 0, none⟩ = false ∧ w.frozen? ⟨g, 1, none⟩ = false ∧ w.frozen? ⟨g, 2, none⟩ = false ∧ w.frozen? ⟨g, 3, none⟩ = false ∧ w.frozen? ⟨g, 4, none⟩ = false ∧ w.frozen? ⟨g, 5, none⟩ = false ∧ w.frozen? ⟨g, 6, none⟩ = false) :=
  ⟨⟨h.cell 0, h.cell 1, h.cell 2, h.cell 3, h.cell 4, h.cell 5, h.cell 6⟩, h.frozen 0, h.frozen 1, h.frozen 2, h.frozen 3, h.frozen 4, h.frozen 5, h.frozen 6⟩
/-- What the reference's Take keeps of the world: its reader, the zero manifest of its result. -/
structure TK (w : World) (r : Nat) (A : Option Addr) (c : Nat) (bs : List Int) (wk : World) (at_ : Nat) (sh : Bool) : Prop where
  rr : RR w.heap.size wk r A c bs at_ sh
  zero : Blk wk w.heap.size 25 zeroV
  below : Below w.heap.size w wk
  lo : w.heap.size < r
section
variable {w wk wk' : World} {r c at_ at' : Nat} {A : Option Addr} {bs : List Int} {sh sh' : Bool} {X : Nat → Prop}
theorem TK.num (h : TK w r A c bs wk at_ sh) (hr : RR w.heap.size wk' r A c bs at' sh') (hu : Upd (· = r) wk wk') : TK w r A c bs wk' at' sh' :=
  ⟨hr, h.zero.upd hu (fun e => by have := h.lo; omega), h.below.trans (hu.below h.below.size (fun g hg => by have := h.lo; omega)), h.lo⟩
theorem TK.upd (h : TK w r A c bs wk at_ sh) (hu : Upd X wk wk') (hX : ∀ g, X g → w.heap.size < g ∧ g ≠ r) : TK w r A c bs wk' at_ sh :=
  ⟨h.rr.upd hu (fun g hg => Nat.le_of_lt (hX g hg).1) (fun hg => (hX r hg).2 rfl), h.zero.upd hu (fun hg => absurd (hX _ hg).1 (Nat.lt_irrefl _)), h.below.trans (hu.below h.below.size (fun g hg => Nat.le_of_lt (hX g hg).1)), h.lo⟩
theorem TK.row (h : TK w r A c bs wk at_ sh) (hu : Upd (· = r) wk wk') {base n : Nat} {v : Value} {xs : List Value} (ho : wk.ownsRow base 44 1 v n xs) : wk'.ownsRow base 44 1 v n xs :=
  own_upd2 ho hu fun g cur hg e => by subst e; exact absurd (blk_ne h.rr.blk hg) (by decide)
end
theorem row_man {wk wk' : World} {mB base n : Nat} {v : Value} {xs : List Value} {cs : Array Value} (hB : Blk wk mB 25 cs) (hu : Upd (· = mB) wk wk') (ho : wk.ownsRow base 44 1 v n xs) : wk'.ownsRow base 44 1 v n xs :=
  own_upd2 ho hu fun g cur hg e => by subst e; exact absurd (blk_ne hB hg) (by decide)
/-- What the reference's Take keeps while it reads lists. -/
structure TL (w : World) (r mB : Nat) (A : Option Addr) (c : Nat) (bs zs : List Int) (A7 : Option Addr) (wl : World) (k : Nat) (m : Man) (B4 B5 B6 : Option Addr) (c4 c5 c6 : Nat) (at_ : Nat) (sh : Bool) : Prop where
  tk : TK w r A c bs wl at_ sh
  lz : Lies wl A7 (zs.map (.int .u16))
  man : Blk wl mB 25 (manV m B4 B5 B6 c4 c5 c6)
  l4 : Ls mB wl B4 m.se
  l5 : Ls mB wl B5 m.pu
  l6 : Ls mB wl B6 m.ou
  st : Stand bs (shE sh) (listsK k m zs (bs.drop at_))
theorem r_u16 (A : Option Addr) (n c at_ : Nat) (sh : Bool) : ∀ (i : Nat) (z : Int), (#[.slice A n c, .int .i64 at_, .bool sh] : Array Value)[i]? ≠ some (.int .u16 z)
  | 0, z => by simp
  | 1, z => by simp
  | 2, z => by simp
  | i + 3, z => by simp
theorem TL.next {w : World} {r mB : Nat} {A : Option Addr} {c : Nat} {bs zs : List Int} {A7 : Option Addr} {wl : World} {k : Nat} {m : Man} {B4 B5 B6 : Option Addr} {c4 c5 c6 : Nat} {at_ : Nat} {sh : Bool} (h : TL w r mB A c bs zs A7 wl k m B4 B5 B6 c4 c5 c6 at_ sh) (hk : k < 3) (hrm : r < mB) {w' : World} {B : Option Addr} {d : Nat} {L : List TI} {at' : Nat} {sh' : Bool}
    (ho : OwnC wl.heap.size w' B d L) (hll : L.length ≤ 255) (hls : ∀ x ∈ L, x.s.size ≤ 255) (h1 : RR w.heap.size w' r A c bs at' sh') (hu : Upd (· = r) wl w')
    (hc0 : shE sh = 0 → (shE sh' = 0 ∧ rdList (bs.drop at_) = some (L, bs.drop at')) ∨ (shE sh' = 3 ∧ rdList (bs.drop at_) = none)) (hc1 : shE sh ≠ 0 → shE sh' = shE sh) {B4' B5' B6' : Option Addr} {c4' c5' c6' : Nat}
    (hman : (manV m B4 B5 B6 c4 c5 c6).setIfInBounds (4 + k) (.slice B L.length d) = manV (setK k m L) B4' B5' B6' c4' c5' c6')
    (e4 : ∀ W, Ls mB W B4 m.se → Ls mB W B L → Ls mB W B4' (setK k m L).se) (e5 : ∀ W, Ls mB W B5 m.pu → Ls mB W B L → Ls mB W B5' (setK k m L).pu) (e6 : ∀ W, Ls mB W B6 m.ou → Ls mB W B L → Ls mB W B6' (setK k m L).ou) :
    TL w r mB A c bs zs A7 (w'.setCell ⟨mB, 4 + k, none⟩ (.slice B L.length d)) (k + 1) (setK k m L) B4' B5' B6' c4' c5' c6' at' sh' := by
  have hm' := h.man.upd hu (by omega)
  have hml := h.man.lt
  have hus : Upd (· = mB) w' (w'.setCell ⟨mB, 4 + k, none⟩ (.slice B L.length d)) := (Upd.refl (· = mB) _).setCell (p := ⟨mB, 4 + k, none⟩) (fun _ => rfl) _
  have hr := h.tk.lo
  have hb := hm'.set (4 + k) (.slice B L.length d)
  rw [hman] at hb
  have hlz := hu.lies h.lz fun b o hb hp => not_in h.tk.rr.blk (r_u16 _ _ _ _ _) h.lz b o hb hp
  have hL : Ls mB w' B L := Ls.own ho hml hll hls
  exact ⟨(h.tk.num h1 hu).upd hus (fun g hg => by omega), hus.lies hlz fun b o hb hp => not_in hm' (man_u16 _ _ _ _ _ _ _) hlz b o hb hp, hb,
    e4 _ ((h.l4.upd hu (fun g hg => by omega)).upd hus (fun g hg => by omega)) (hL.upd hus (fun g hg => by omega)),
    e5 _ ((h.l5.upd hu (fun g hg => by omega)).upd hus (fun g hg => by omega)) (hL.upd hus (fun g hg => by omega)),
    e6 _ ((h.l6.upd hu (fun g hg => by omega)).upd hus (fun g hg => by omega)) (hL.upd hus (fun g hg => by omega)),
    h.st.next hk hc0 hc1⟩
end Go.Proofs.Ytgcmbleinobneaa.Ip
