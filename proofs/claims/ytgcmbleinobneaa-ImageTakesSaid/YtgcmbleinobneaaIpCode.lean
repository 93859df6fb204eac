/- DERIVED. Contracts of the program's reader: code. By an AI agent. -/
import Derived.Test.YtgcmbleinobneaaIpNums2
namespace Go.Proofs.Ytgcmbleinobneaa.Ip
open Go.ChangeShapes Go.WideShapes Go.ChangeAt Go.RowKit Args ImRef
set_option linter.unusedVariables false
section
variable {n₀ r : Nat} {w w' : World} {ys ps : List Int} {e : Int} {A : Option Addr} {c : Nat}
theorem Rdr.facts (h : Rdr n₀ w r ys e) : Byte ys ∧ ys.length ≤ 140737488351232 ∧ n₀ ≤ r ∧ r < w.heap.size := by
  obtain ⟨A, c, hb, hp, hn⟩ := h
  exact ⟨hp.byte, hp.reach, hn, hb.lt⟩
theorem Rdr.below (h : Rdr n₀ w r ys e) (hb : Below w.heap.size w w') : Rdr n₀ w' r ys e :=
  h.upd (Upd.of_below hb (fun _ => False)) (fun _ h => h.elim) (fun h => h)
/-- number of a piece that was cut. -/
theorem number_of (h : Pc n₀ w A c ps) (h4 : ps.length ≤ 4) (k : Nat) (hk : k = ps.length) :
    Calls Try.prog 36 #[.slice A k c] w fun en w' => en = .returned (.int .u32 (numL ps)) ∧ w = w' := by
  subst hk
  exact number A c ps w h.lies h4 h.byte
theorem words_of (h : Pc n₀ w A c ps) (k : Nat) (hk : k = ps.length) :
    Calls Try.prog 19 #[.slice A k c] w fun en w' => ∃ v, en = .returned v ∧ Sl w' v (cnt ps.length 2) ((wordsL ps).map (.int .u16)) ∧ Below w.heap.size w w' := by
  subst hk
  exact words A c ps w h.lies h.byte h.reach h.cap h.max
end
theorem failE_nz (e k : Int) (hk : k ≠ 0) : failE e k ≠ 0 := by unfold failE; split <;> assumption
theorem failE_of (e k : Int) (he : e ≠ 0) : failE e k = e := by unfold failE; rw [if_neg he]
theorem failE_0 (k : Int) : failE 0 k = k := rfl
theorem words_halves (n : Nat) (ys : List Int) (h : 2 * n ≤ ys.length) : wordsL (ys.take (2 * n)) = halves n ys := by
  unfold wordsL
  rw [show (ys.take (2 * n)).length = 2 * n by rw [List.length_take]; omega, show cnt (2 * n) 2 = n by unfold cnt; omega]
  induction n generalizing ys with
  | zero => rfl
  | succ n ih =>
    rw [List.range_succ_eq_map, List.map_cons, List.map_map, halves]
    have h2 : 2 * n ≤ (ys.drop 2).length := by rw [List.length_drop]; omega
    rw [← ih (ys.drop 2) h2]
    congr 1
    · unfold pcn pcl
      rw [Nat.zero_mul, List.drop_zero, List.take_take, Nat.min_eq_left (by omega)]
    · apply List.map_congr_left
      intro j hj
      have hj' := List.mem_range.1 hj
      show pcn _ 2 (j + 1) = pcn _ 2 j
      unfold pcn pcl
      rw [List.drop_take, List.drop_take, List.take_take, List.take_take, List.drop_drop, Nat.min_eq_left (by omega), Nat.min_eq_left (by omega), show 2 + j * 2 = (j + 1) * 2 by omega]
/-- A cut of k bytes that goes. -/
def CutK (n₀ : Nat) (w : World) (r : Nat) (ys : List Int) (k : Nat) (en : Ending) (w' : World) : Prop :=
  ∃ A', en = .returned (.slice A' k k) ∧ Pc n₀ w' A' k (ys.take k) ∧ Rdr n₀ w' r (ys.drop k) 0 ∧ Upd (· = r) w w'
theorem cut4 (n₀ r : Nat) (ys : List Int) (w : World) (hR : Rdr n₀ w r ys 0) (h : 4 ≤ ys.length) : Calls Try.prog 39 #[.pointer (some ⟨r, 0, none⟩), .int .i64 4] w (CutK n₀ w r ys 4) :=
  cut_yes n₀ r ys 4 w hR (by decide) (by omega)
theorem cut1 (n₀ r : Nat) (ys : List Int) (w : World) (hR : Rdr n₀ w r ys 0) (h : 1 ≤ ys.length) : Calls Try.prog 39 #[.pointer (some ⟨r, 0, none⟩), .int .i64 1] w (CutK n₀ w r ys 1) :=
  cut_yes n₀ r ys 1 w hR (by decide) (by omega)
theorem cutZ (n₀ r : Nat) (ys : List Int) (w : World) (hR : Rdr n₀ w r ys 0) (z : Int) (k : Nat) (hz : z = k) (h : k ≤ ys.length) : Calls Try.prog 39 #[.pointer (some ⟨r, 0, none⟩), .int .i64 z] w (CutK n₀ w r ys k) := by
  subst hz
  have := cut_yes n₀ r ys k w hR (by omega) (by omega)
  exact this
/-- Of no code there are no halfwords. -/
theorem words_none (w : World) : Calls Try.prog 19 #[.slice none 0 0] w fun en w' => (∃ v, en = .returned v) ∧ Below w.heap.size w w' :=
  (words none 0 [] w (Lies.nil _ _) (fun z h => by cases h) (by decide) (Nat.le_refl _) (by decide)).mono fun en w' ⟨v, h1, _, h2⟩ => ⟨⟨v, h1⟩, h2⟩
theorem number_none (w : World) : Calls Try.prog 36 #[.slice none 0 0] w fun en w' => en = .returned (.int .u32 0) ∧ w = w' :=
  number none 0 [] w (Lies.nil _ _) (by decide) (fun z h => by cases h)
/-- What code hands back where it doesn't go. -/
def CodeNo (n₀ : Nat) (w : World) (r : Nat) (f : Int) (en : Ending) (w' : World) : Prop := (∃ v, en = .returned v) ∧ (∃ ys', Rdr n₀ w' r ys' f) ∧ Upd (· = r) w w'
set_option maxHeartbeats 2000000 in
/-- Where the number can't be read. -/
theorem code_no (n₀ r : Nat) (ys : List Int) (e : Int) (w : World) (hR : Rdr n₀ w r ys e) (h : e ≠ 0 ∨ (ys.length : Int) < 4) :
    Calls Try.prog 29 #[.pointer (some ⟨r, 0, none⟩)] w (CodeNo n₀ w r (failE e 3)) := by
  have HC := Lib.hid (cut_no n₀ r ys e 4 w hR h)
  clear hR h
  go_enter Try.func29, Try.ntmps29
  go_wp2_with fail
  refine HC.out.mono ?_
  rintro en w1 ⟨rfl, h1, h2⟩
  have hc2 := cut_no n₀ r ys (failE e 3) 0 w1 h1 (.inl (failE_nz e 3 (by decide)))
  rw [failE_of _ 3 (failE_nz e 3 (by decide))] at hc2
  have HC2 := Lib.hid hc2; have HU1 := Lib.hid h2
  clear h1 h2 hc2
  go_wp2_with fail
  refine (number_none _).mono ?_
  rintro en w' ⟨rfl, rfl⟩
  go_wp2_with fail
  refine HC2.out.mono ?_
  rintro en w2 ⟨rfl, h1, h2⟩
  have HR2 := Lib.hid h1; have HU2 := Lib.hid (HU1.out.trans h2)
  clear h1 h2
  go_wp2_with fail
  refine (words_none _).mono ?_
  rintro en w3 ⟨⟨v, rfl⟩, hb⟩
  have HB := Lib.hid hb
  clear hb
  go_wp2_with fail
  go_ret
  exact ⟨⟨_, rfl⟩, ⟨ys, HR2.out.below HB.out⟩, HU2.out.trans (Upd.of_below HB.out _)⟩
set_option maxHeartbeats 2000000 in
theorem code_long (n₀ r : Nat) (ys : List Int) (w : World) (hR : Rdr n₀ w r ys 0) (h4 : 4 ≤ ys.length) (hn : 60000 < numL (ys.take 4)) :
    Calls Try.prog 29 #[.pointer (some ⟨r, 0, none⟩)] w (CodeNo n₀ w r 2) := by
  obtain ⟨hby, hreach, hnr, _⟩ := hR.facts
  have HC := Lib.hid (cut4 n₀ r ys w hR h4)
  have hl4 : (ys.take 4).length = 4 := by rw [List.length_take]; omega
  have hbd := numL_bd (ys.take 4) (hby.take 4)
  rw [hl4] at hbd
  have HL := Lib.hid hl4
  obtain ⟨q0, q1⟩ := hbd
  have q2 : numL (ys.take 4) < 4294967296 := q1
  clear hR hl4 q1 hby
  go_enter Try.func29, Try.ntmps29
  go_wp2_with fail
  refine HC.out.mono ?_
  rintro en w1 ⟨A1, rfl, h0, h1, h2⟩
  have HN := Lib.hid (number_of h0 (by rw [HL.out]; decide) 4 HL.out.symm)
  have HF := Lib.hid (fail n₀ r _ 0 2 w1 h1)
  have HU1 := Lib.hid h2
  clear h0 h1 h2
  go_wp2_with fail
  refine HN.out.mono ?_
  rintro en w' ⟨rfl, rfl⟩
  generalize numL (List.take 4 ys) = q at *
  go_wp2_with fail
  refine HF.out.mono ?_
  rintro en w2 ⟨⟨v, rfl⟩, h1, h2⟩
  have hc2 := cut_no n₀ r _ (failE 0 2) (2 * q) w2 h1 (.inl (by decide))
  rw [failE_of _ 3 (by decide), failE_0] at hc2
  have HC2 := Lib.hid hc2; have HU2 := Lib.hid (HU1.out.trans h2)
  clear h1 h2 hc2
  go_wp2_with fail
  refine HC2.out.mono ?_
  rintro en w3 ⟨rfl, h1, h2⟩
  have HR3 := Lib.hid h1; have HU3 := Lib.hid (HU2.out.trans h2)
  clear h1 h2
  go_wp2_with fail
  refine (words_none _).mono ?_
  rintro en w4 ⟨⟨v, rfl⟩, hb⟩
  have HB := Lib.hid hb
  clear hb
  go_wp2_with fail
  go_ret
  exact ⟨⟨_, rfl⟩, ⟨_, HR3.out.below HB.out⟩, HU3.out.trans (Upd.of_below HB.out _)⟩
set_option maxHeartbeats 2000000 in
theorem code_short (n₀ r : Nat) (ys : List Int) (w : World) (hR : Rdr n₀ w r ys 0) (h4 : 4 ≤ ys.length) (hn : numL (ys.take 4) ≤ 60000) (hs : ((ys.drop 4).length : Int) < 2 * numL (ys.take 4)) :
    Calls Try.prog 29 #[.pointer (some ⟨r, 0, none⟩)] w (CodeNo n₀ w r 3) := by
  obtain ⟨hby, hreach, hnr, _⟩ := hR.facts
  have HC := Lib.hid (cut4 n₀ r ys w hR h4)
  have hl4 : (ys.take 4).length = 4 := by rw [List.length_take]; omega
  have hbd := numL_bd (ys.take 4) (hby.take 4)
  rw [hl4] at hbd
  have HL := Lib.hid hl4
  obtain ⟨q0, q1⟩ := hbd
  have q2 : numL (ys.take 4) < 4294967296 := q1
  have HS := Lib.hid hs
  clear hR hl4 q1 hby hs
  go_enter Try.func29, Try.ntmps29
  go_wp2_with fail
  refine HC.out.mono ?_
  rintro en w1 ⟨A1, rfl, h0, h1, h2⟩
  have HN := Lib.hid (number_of h0 (by rw [HL.out]; decide) 4 HL.out.symm)
  have HF := Lib.hid (cut_no n₀ r _ 0 (2 * numL (ys.take 4)) w1 h1 (.inr HS.out))
  have HU1 := Lib.hid h2
  clear h0 h1 h2
  go_wp2_with fail
  refine HN.out.mono ?_
  rintro en w' ⟨rfl, rfl⟩
  generalize numL (List.take 4 ys) = q at *
  go_wp2_with fail
  refine HF.out.mono ?_
  rintro en w3 ⟨rfl, h1, h2⟩
  have HR3 := Lib.hid h1; have HU3 := Lib.hid (HU1.out.trans h2)
  clear h1 h2
  go_wp2_with fail
  refine (words_none _).mono ?_
  rintro en w4 ⟨⟨v, rfl⟩, hb⟩
  have HB := Lib.hid hb
  clear hb
  go_wp2_with fail
  go_ret
  exact ⟨⟨_, rfl⟩, ⟨_, HR3.out.below HB.out⟩, HU3.out.trans (Upd.of_below HB.out _)⟩
set_option maxHeartbeats 2000000 in
theorem code_yes (n₀ r : Nat) (ys : List Int) (w : World) (hR : Rdr n₀ w r ys 0) (h4 : 4 ≤ ys.length) (q : Int) (hq : q = numL (ys.take 4)) (hn : q ≤ 60000) (hs : 2 * q.toNat ≤ (ys.drop 4).length) :
    Calls Try.prog 29 #[.pointer (some ⟨r, 0, none⟩)] w fun en w' => ∃ v, en = .returned v ∧ Sl w' v q.toNat ((halves q.toNat (ys.drop 4)).map (.int .u16)) ∧
      Rdr n₀ w' r ((ys.drop 4).drop (2 * q.toNat)) 0 ∧ Upd (· = r) w w' := by
  obtain ⟨hby, hreach, hnr, _⟩ := hR.facts
  have HC := Lib.hid (cut4 n₀ r ys w hR h4)
  have hl4 : (ys.take 4).length = 4 := by rw [List.length_take]; omega
  have hbd := numL_bd (ys.take 4) (hby.take 4)
  rw [hl4, ← hq] at hbd
  have HL := Lib.hid hl4
  obtain ⟨q0, q1⟩ := hbd
  have q2 : q < 4294967296 := q1
  have HS := Lib.hid hs
  have HQ := Lib.hid hq
  clear hR hl4 q1 hby hs hq
  go_enter Try.func29, Try.ntmps29
  go_wp2_with fail
  refine HC.out.mono ?_
  rintro en w1 ⟨A1, rfl, h0, h1, h2⟩
  have hn0 := number_of h0 (by rw [HL.out]; decide) 4 HL.out.symm
  rw [← HQ.out] at hn0
  have HN := Lib.hid hn0
  have HF := Lib.hid (cutZ n₀ r _ w1 h1 (2 * q) (2 * q.toNat) (by omega) HS.out)
  have HU1 := Lib.hid h2
  clear h0 h1 h2 hn0
  go_wp2_with fail
  refine HN.out.mono ?_
  rintro en w' ⟨rfl, rfl⟩
  go_wp2_with fail
  refine HF.out.mono ?_
  rintro en w3 ⟨A3, rfl, h0, h1, h2⟩
  have hl3 : 2 * q.toNat = ((ys.drop 4).take (2 * q.toNat)).length := by rw [List.length_take]; have := HS.out; omega
  have HW := Lib.hid (words_of h0 (2 * q.toNat) hl3)
  have HL3 := Lib.hid hl3
  have HR3 := Lib.hid h1; have HU3 := Lib.hid (HU1.out.trans h2)
  clear h0 h1 h2 hl3
  go_wp2_with fail
  refine HW.out.mono ?_
  rintro en w4 ⟨v, rfl, hv, hb⟩
  have HB := Lib.hid hb; have HV := Lib.hid hv
  clear hb hv
  go_wp2_with fail
  go_ret
  refine ⟨v, rfl, ?_, HR3.out.below HB.out, HU3.out.trans (Upd.of_below HB.out _)⟩
  have h := HV.out
  rw [← HL3.out, words_halves q.toNat _ HS.out, show cnt (2 * q.toNat) 2 = q.toNat by unfold cnt; omega] at h
  exact h
end Go.Proofs.Ytgcmbleinobneaa.Ip
