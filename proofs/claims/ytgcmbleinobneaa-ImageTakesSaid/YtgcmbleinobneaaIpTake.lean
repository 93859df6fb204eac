/- DERIVED. Contracts of the program's end, Take. By an AI agent. -/
import Derived.Test.YtgcmbleinobneaaIpBegin
namespace Go.Proofs.Ytgcmbleinobneaa.Ip
open Go.ChangeShapes Go.WideShapes Go.ChangeAt Go.RowKit Args ImRef
set_option linter.unusedVariables false
def endE (ys : List Int) (m : Man) (e : Int) : Int := if ys ≠ [] ∨ canM m = false then failE e 4 else e
set_option maxHeartbeats 2000000 in
theorem end_any (n₀ r : Nat) (ys : List Int) (e : Int) (m : Man) (A4 A5 A6 : Option Addr) (c4 c5 c6 : Nat) (w : World) (hR : Rdr n₀ w r ys e) (h4 : Cs w A4 m.se) (h5 : Cs w A5 m.pu) (h6 : Cs w A6 m.ou) :
    Calls Try.prog 31 #[.pointer (some ⟨r, 0, none⟩), man m A4 A5 A6 c4 c5 c6] w fun en w' => (∃ v, en = .returned v) ∧ Rdr n₀ w' r ys (endE ys m e) ∧ Upd (· = r) w w' := by
  obtain ⟨_, hreach, hnr, hrl⟩ := hR.facts
  have hbo := (Below.refl w.heap.size w).alloc (Nat.le_refl _) (.cells (manV m A4 A5 A6 c4 c5 c6) 25)
  have hR1 := hR.below hbo
  have HCAN := Lib.hid (can m A4 A5 A6 c4 c5 c6 _ (h4.below hbo) (h5.below hbo) (h6.below hbo))
  obtain ⟨A, c, hb, hp, hn⟩ := id hR1
  have c0 := hb.cell 0
  have c0' : (w.alloc (.cells (manV m A4 A5 A6 c4 c5 c6) 25)).cell? ⟨r, 0, none⟩ = some (.slice A ys.length c) := c0
  unfold manV at c0'
  have HR1 := Lib.hid hR1; have HB := Lib.hid hbo
  clear hR hbo h4 h5 h6 hb hp hR1 c0
  by_cases hl : 0 < ys.length
  · have HE : Hid (endE ys m e = failE e 4) := Lib.hid (by unfold endE; rw [if_pos (.inl (fun h => by subst h; simp at hl))])
    have HF := Lib.hid (fail n₀ r ys e 4 _ HR1.out)
    have hld : decide (0 < (ys.length : Int)) = true := decide_eq_true (by omega)
    go_enter Try.func31, Try.ntmps31
    go_wp2_with fail
    refine HF.out.mono ?_
    rintro en w1 ⟨⟨v, rfl⟩, h1, h2⟩
    have HR2 := Lib.hid h1; have HU2 := Lib.hid h2
    clear h1 h2
    go_wp2_with fail
    go_end0
    exact ⟨⟨_, rfl⟩, by rw [HE.out]; exact HR2.out, ((Upd.refl _ w).alloc _).trans HU2.out⟩
  · have hy : ys = [] := List.eq_nil_of_length_eq_zero (by omega)
    subst hy
    cases hc : canM m with
    | true =>
      have HE : Hid (endE [] m e = e) := Lib.hid (by unfold endE; rw [if_neg (by simp [hc])])
      rw [hc] at HCAN
      clear hc hl
      go_enter Try.func31, Try.ntmps31
      go_wp2_with fail
      refine HCAN.out.mono ?_
      rintro en w1 ⟨rfl, hb1⟩
      have HB1 := Lib.hid hb1
      clear hb1
      go_wp2_with fail
      go_end0
      exact ⟨⟨_, rfl⟩, by rw [HE.out]; exact HR1.out.below HB1.out, ((Upd.refl _ w).alloc _).trans (Upd.of_below HB1.out _)⟩
    | false =>
      have HE : Hid (endE [] m e = failE e 4) := Lib.hid (by unfold endE; rw [if_pos (.inr hc)])
      rw [hc] at HCAN
      clear hc hl
      go_enter Try.func31, Try.ntmps31
      go_wp2_with fail
      refine HCAN.out.mono ?_
      rintro en w1 ⟨rfl, hb1⟩
      have HB1 := Lib.hid hb1
      have HF := Lib.hid (fail n₀ r [] e 4 _ (HR1.out.below hb1))
      clear hb1
      go_wp2_with fail
      refine HF.out.mono ?_
      rintro en w2 ⟨⟨v, rfl⟩, h1, h2⟩
      have HR2 := Lib.hid h1; have HU2 := Lib.hid h2
      clear h1 h2
      go_wp2_with fail
      go_end0
      exact ⟨⟨_, rfl⟩, by rw [HE.out]; exact HR2.out, ((Upd.refl _ w).alloc _).trans ((Upd.of_below HB1.out _).trans HU2.out)⟩
/-! What is read, step by step. -/
theorem begin_zero (bs : List Int) (h : beginE bs = 0) : takeR bs = headR (bs.drop 4) := by
  unfold beginE at h
  unfold takeR
  split at h
  · cases h
  · rename_i h1
    rw [if_neg h1]
    split at h
    · cases h
    · rename_i h2
      rw [if_neg h2]
theorem begin_bad (bs : List Int) (h : beginE bs ≠ 0) : takeR bs = bad (beginE bs) := by
  unfold beginE at h ⊢
  unfold takeR
  split
  · rfl
  · split
    · rfl
    · rename_i h1 h2
      rw [if_neg h1, if_neg h2] at h
      exact absurd rfl h
/-- Behind a manifest's four numbers. -/
def numR (o s r w : Int) (ys : List Int) : Res :=
  match rdNum 4 ys with
  | none => bad 3
  | some (n, y5) => codeR o s r w n y5
theorem rdNum_at (k : Nat) (ys : List Int) (h : k ≤ ys.length) : rdNum k ys = some (numL (ys.take k), ys.drop k) := by unfold rdNum; rw [if_neg (by omega)]
theorem head_yes (ys : List Int) (h : 16 ≤ ys.length) : headR ys = numR (numL (ys.take 4)) (numL ((ys.drop 4).take 4)) (numL ((ys.drop 8).take 4)) (numL ((ys.drop 12).take 4)) (ys.drop 16) := by
  unfold headR
  rw [rdNum_at 4 ys (by omega)]; dsimp only
  rw [rdNum_at 4 (ys.drop 4) (by rw [List.length_drop]; omega)]; dsimp only
  rw [List.drop_drop, rdNum_at 4 (ys.drop (4 + 4)) (by rw [List.length_drop]; omega)]; dsimp only
  rw [List.drop_drop, rdNum_at 4 (ys.drop (4 + 4 + 4)) (by rw [List.length_drop]; omega)]; dsimp only
  rw [List.drop_drop]
  rfl
theorem head_no (ys : List Int) (h : ys.length < 16) : headR ys = bad 3 := by
  unfold headR
  by_cases h1 : ys.length < 4
  · rw [rdNum_no 4 ys h1]
  rw [rdNum_at 4 ys (by omega)]; dsimp only
  by_cases h2 : (ys.drop 4).length < 4
  · rw [rdNum_no 4 _ h2]
  rw [rdNum_at 4 (ys.drop 4) (by omega)]; dsimp only
  by_cases h3 : ((ys.drop 4).drop 4).length < 4
  · rw [rdNum_no 4 _ h3]
  rw [rdNum_at 4 ((ys.drop 4).drop 4) (by omega)]; dsimp only
  rw [rdNum_no 4 _ (by simp only [List.length_drop] at h2 h3 ⊢; omega)]
theorem num_no (o s r w : Int) (ys : List Int) (h : ys.length < 4) : numR o s r w ys = bad 3 := by unfold numR; rw [rdNum_no 4 ys h]
theorem num_long (o s r w : Int) (ys : List Int) (h : 4 ≤ ys.length) (hn : 60000 < numL (ys.take 4)) : numR o s r w ys = bad 2 := by
  unfold numR
  rw [rdNum_at 4 ys h]; dsimp only
  unfold codeR
  rw [if_pos hn]
theorem num_short (o s r w : Int) (ys : List Int) (h : 4 ≤ ys.length) (hn : numL (ys.take 4) ≤ 60000) (hs : (ys.drop 4).length < 2 * (numL (ys.take 4)).toNat) : numR o s r w ys = bad 3 := by
  unfold numR
  rw [rdNum_at 4 ys h]; dsimp only
  unfold codeR
  rw [if_neg (by omega)]
  unfold rdHalves
  rw [if_pos hs]
theorem num_yes (o s r w : Int) (ys : List Int) (h : 4 ≤ ys.length) (hn : numL (ys.take 4) ≤ 60000) (hs : 2 * (numL (ys.take 4)).toNat ≤ (ys.drop 4).length) :
    numR o s r w ys = listsR o s r w (halves (numL (ys.take 4)).toNat (ys.drop 4)) ((ys.drop 4).drop (2 * (numL (ys.take 4)).toNat)) := by
  unfold numR
  rw [rdNum_at 4 ys h]; dsimp only
  unfold codeR
  rw [if_neg (by omega)]
  unfold rdHalves
  rw [if_neg (by omega)]
theorem halves_len : ∀ (n : Nat) (ys : List Int), (halves n ys).length = n
  | 0, _ => rfl
  | n + 1, ys => by simp [halves, halves_len n]
theorem pcn16 (ys : List Int) (j : Nat) (h : j < 4) : pcn (ys.take 16) 4 j = numL ((ys.drop (4 * j)).take 4) := by
  unfold pcn pcl
  rw [List.drop_take, List.take_take, Nat.min_eq_left (by omega), Nat.mul_comm]
/-- Where the lists stand: k of them have been read. -/
def listsK (k : Nat) (m : Man) (zs : List Int) (ys : List Int) : Res :=
  match k with
  | 0 => listsR m.o m.s m.r m.w zs ys
  | 1 => match rdList ys with
    | none => bad 3
    | some (pu, y2) => match rdList y2 with
      | none => bad 3
      | some (ou, y3) => endR zs ⟨m.o, m.s, m.r, m.w, m.se, pu, ou⟩ y3
  | 2 => match rdList ys with
    | none => bad 3
    | some (ou, y3) => endR zs ⟨m.o, m.s, m.r, m.w, m.se, m.pu, ou⟩ y3
  | _ => endR zs m ys
def setK (k : Nat) (m : Man) (l : List TI) : Man :=
  match k with
  | 0 => ⟨m.o, m.s, m.r, m.w, l, m.pu, m.ou⟩
  | 1 => ⟨m.o, m.s, m.r, m.w, m.se, l, m.ou⟩
  | _ => ⟨m.o, m.s, m.r, m.w, m.se, m.pu, l⟩
theorem lists_no (k : Nat) (hk : k < 3) (m : Man) (zs ys : List Int) (h : rdList ys = none) : listsK k m zs ys = bad 3 := by
  match k, hk with
  | 0, _ => show listsR _ _ _ _ _ _ = _; unfold listsR; rw [h]
  | 1, _ => show (match rdList ys with | none => bad 3 | some (pu, y2) => _) = _; rw [h]
  | 2, _ => show (match rdList ys with | none => bad 3 | some (ou, y3) => _) = _; rw [h]
theorem lists_yes (k : Nat) (hk : k < 3) (m : Man) (zs ys y2 : List Int) (l : List TI) (h : rdList ys = some (l, y2)) : listsK k m zs ys = listsK (k + 1) (setK k m l) zs y2 := by
  match k, hk with
  | 0, _ => unfold listsK listsR; rw [h]; rfl
  | 1, _ => unfold listsK; rw [h]; rfl
  | 2, _ => unfold listsK; rw [h]; rfl
theorem rdList_at (ys : List Int) (h : 1 ≤ ys.length) : rdList ys = rdCells (numL (ys.take 1)).toNat (ys.drop 1) := by
  unfold rdList
  rw [rdNum_at 1 ys h]; rfl
theorem came_end {N : Nat} {Y ys : List Int} {L : List TI} {e : Int} (h : CellsR N Y L ys e) : (e = 0 ∧ rdCells N Y = some (L, ys)) ∨ (e = 3 ∧ rdCells N Y = none) := by
  rcases h with ⟨h1, h2⟩ | h
  · refine .inl ⟨h1, ?_⟩
    rw [h2, Nat.sub_self, rdCells]; simp
  · exact .inr h
/-- How it stands: the rest's reading is the whole's, or the whole can't be read. -/
def Stand (bs : List Int) (e : Int) (rest : Res) : Prop := (e = 0 → takeR bs = rest) ∧ (e ≠ 0 → takeR bs = bad e)
theorem Stand.fail {bs : List Int} {e : Int} {rest rest' : Res} (h : Stand bs e rest) (hr : e = 0 → rest = bad 3) : Stand bs (failE e 3) rest' := by
  refine ⟨fun h0 => absurd h0 (failE_nz e 3 (by decide)), fun _ => ?_⟩
  by_cases he : e = 0
  · subst he
    exact (h.1 rfl).trans (hr rfl)
  · rw [failE_of e 3 he]; exact h.2 he
theorem Stand.end_ {bs zs ys : List Int} {e : Int} {m : Man} (h : Stand bs e (endR zs m ys)) : (endE ys m e = 0 → takeR bs = (0, zs, m)) ∧ (endE ys m e ≠ 0 → takeR bs = bad (endE ys m e)) := by
  unfold endE
  by_cases he : e = 0
  · subst he
    have h1 := h.1 rfl
    unfold endR at h1
    split
    · rename_i hb
      rw [if_pos hb] at h1
      exact ⟨fun h => absurd h (by decide), fun _ => h1⟩
    · rename_i hb
      rw [if_neg hb] at h1
      exact ⟨fun _ => h1, fun h => absurd rfl h⟩
  · have h2 := h.2 he
    split
    · rw [failE_of e 4 he]
      exact ⟨fun h => absurd h he, fun _ => h2⟩
    · exact ⟨fun h => absurd h he, fun _ => h2⟩
end Go.Proofs.Ytgcmbleinobneaa.Ip
