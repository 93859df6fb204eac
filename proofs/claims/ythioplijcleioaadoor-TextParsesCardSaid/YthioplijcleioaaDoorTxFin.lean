/- DERIVED. Parse of what Show writes; the laws' living call; the walk of TextShows. By an AI agent. -/
import Derived.Test.YthioplijcleioaaDoorTxRShow
import Derived.Test.YthioplijcleioaaDoorTxParse
import Derived.Test.YthioplijcleioaaDoorTxLaid
namespace Go.Proofs.YthioplijcleioaaDoor.Tx
open Go.ChangeShapes Go.WideShapes Go.ChangeAt Go.RowKit Go.Lib Go.Sort Args
set_option linter.unusedVariables false
theorem wd_asc (ws : List Txt) (hws : ws = aluW ∨ ws = cndW) (j : Nat) : ∀ x ∈ ws[j]?.getD [], x.toNat < 128 := by
  have hall : ∀ y ∈ ws, ∀ x ∈ y, x.toNat < 128 := by rcases hws with rfl | rfl <;> decide
  by_cases hj : j < ws.length
  · rw [List.getElem?_eq_getElem hj]
    exact hall _ (List.getElem_mem hj)
  · rw [List.getElem?_eq_none (by omega)]
    intro x hx
    cases hx
theorem show_asc {c : UInt8} {p : Pl} (hc : plc c = some p) (s : Nm) : ∀ x ∈ p.show s, x.toNat < 128 := by
  unfold Pl.show
  rcases plc_ws hc with h | h
  · rw [if_pos h]
    have hm : p.mark.toNat < 128 := by
      unfold plc at hc
      repeat' (split at hc)
      all_goals first | (cases hc; decide) | cases hc
    intro x hx
    rw [List.mem_cons] at hx
    rcases hx with rfl | hx
    · exact hm
    · have := (itoa_stp _ x hx).2; omega
  · rw [if_neg (by rcases h with h | h <;> rw [h] <;> decide)]
    exact wd_asc p.ws h _
theorem wr_asc (s : Nm) : ∀ (sh : Txt), (∀ c ∈ sh, c.toNat < 128) → ∀ x ∈ wr sh s, x.toNat < 128
  | [], _, x, hx => by cases hx
  | c :: r, h, x, hx => by
    unfold wr at hx
    rw [List.mem_append] at hx
    rcases hx with hx | hx
    · cases hc : plc c with
      | none => rw [hc] at hx; simp only [List.mem_singleton] at hx; rw [hx]; exact h c (by simp)
      | some p => rw [hc] at hx; exact show_asc hc s x hx
    · exact wr_asc s r (fun c hc => h c (by simp [hc])) x hx
theorem showL_asc {k : Nat} (hk : k < 21) (s : Nm) : ∀ x ∈ showL k s, x.toNat < 128 :=
  wr_asc s _ fun c hc => by have := List.all_eq_true.1 (asc_shp ⟨k, hk⟩).1 c hc; simpa using this
theorem showL_len {k : Nat} {s : Nm} (h : Okk k s) : (showL k s).length ≤ 800 := by
  have h1 := wr_len s (shpN k) (okk_wok h)
  have h2 := (asc_shp ⟨k, h.hk⟩).2
  simp only at h2
  show (wr (shpN k) s).length ≤ 800
  omega
/-- Parse of what Show writes. -/
theorem parseShow {k : Nat} {s : Nm} (h : Okk k s) (w : World) (hL : Lw w) :
    Calls Tryd.prog 8 #[str (showL k s)] w fun e w' => e = .returned (.tuple #[.agg #[.int .i64 k, .int .i64 s.d, .int .i64 s.n, .int .i64 s.m, .int .i64 s.i], .int .i64 0]) ∧ Below w.heap.size w w' := by
  have hl := showL_len h
  refine (parseC (showL k s) (by omega) (ix_ascii _ (by omega) (showL_asc h.hk s)) w hL).mono ?_
  rintro e w' ⟨h1, hb⟩
  rcases h1 with ⟨k', s', ok', e', rfl⟩ | ⟨hno, _⟩
  · obtain ⟨rfl, rfl⟩ := show_one ok' h e'
    exact ⟨rfl, hb⟩
  · exact absurd rfl (hno k s h)
theorem ldrT : showL 12 ⟨1, 2, 0, 3⟩ = [108, 100, 114, 32, 114, 49, 44, 32, 91, 114, 50, 44, 32, 35, 49, 50, 93] := by
  simp [showL, shpN, shp, wr, plc, Pl.show, Nm.get, itoa, decDigits]
theorem movT : showL 0 ⟨1, 0, 0, 5⟩ = [109, 111, 118, 115, 32, 114, 49, 44, 32, 35, 53] := by
  simp [showL, shpN, shp, wr, plc, Pl.show, Nm.get, itoa, decDigits]
set_option maxHeartbeats 1000000 in
theorem lives (w : World) (hL : Lw w) : Calls Tryd.prog 7 #[] w fun e w' => e = .returned (.bool true) ∧ Below w.heap.size w w' := by
  have hs := fun W h => showP 12 1 2 0 3 W h
  have e1 : shwV 12 1 2 0 3 = .tuple #[.string ⟨#[108, 100, 114, 32, 114, 49, 44, 32, 91, 114, 50, 44, 32, 35, 49, 50, 93]⟩, .bool true] := by
    have c : ThRef.canB 12 1 2 0 3 = true := by decide +kernel
    unfold shwV
    rw [if_pos c]
    show Value.tuple #[.string ⟨(showL 12 ⟨1, 2, 0, 3⟩).toArray⟩, .bool true] = _
    rw [ldrT]
  have hp := fun W h => parseShow (k := 0) (s := ⟨1, 0, 0, 5⟩) ((okk_of 0 (by decide) 1 0 0 5).1 (by decide +kernel)) W h
  rw [e1] at hs
  rw [movT] at hp
  have hp2 : ∀ W, Lw W → Calls Tryd.prog 8 #[.string ⟨#[109, 111, 118, 115, 32, 114, 49, 44, 32, 35, 53]⟩] W fun e w' => e = .returned (.tuple #[.agg #[.int .i64 0, .int .i64 1, .int .i64 0, .int .i64 0, .int .i64 5], .int .i64 0]) ∧ Below W.heap.size W w' := hp
  have HS := Lib.hid hs; have HP := Lib.hid hp2; have HL := Lib.hid hL
  clear hs hp hp2 e1 hL
  go_enter Tryd.func7, Tryd.ntmps7
  go_wp2_with fail
  refine (HS.out _ HL.out).mono ?_
  rintro e w1 ⟨rfl, hb1⟩
  have HB := Lib.hid hb1
  clear hb1
  go_wp2_with fail
  refine (HP.out _ (HL.out.below HB.out)).mono ?_
  rintro e w2 ⟨rfl, hb2⟩
  have HB2 := Lib.hid (HB.out.trans (hb2.mono HB.out.size))
  clear hb2
  go_wp2_with fail
  go_ret
  exact ⟨rfl, HB2.out.alloc HB2.out.size _⟩
end Go.Proofs.YthioplijcleioaaDoor.Tx
namespace Go.Proofs.YthioplijcleioaaDoor.textShows
open Go.ChangeShapes Go.WideShapes Go.ChangeAt Go.RowKit Go.Lib Go.Sort Args Tx
set_option linter.unusedVariables false
set_option maxRecDepth 100000 in
set_option maxHeartbeats 4000000 in
theorem walk (W : World) (op d n m imm : Int) (hw : (Lit.int .i64 op).wf = true ∧ (Lit.int .i64 d).wf = true ∧ (Lit.int .i64 n).wf = true ∧ (Lit.int .i64 m).wf = true ∧ (Lit.int .i64 imm).wf = true) (hL : Lw W) :
    Calls Tryd.prog 3 #[ins op d n m imm] W fun e w' => e = .returned (.bool true) ∧ Below W.heap.size W w' := by
  clear hw
  have hpp := fun w h => showP op d n m imm w h
  have hrp := fun w => TxR.showR op d n m imm w
  by_cases hc : ThRef.canB op d n m imm = true
  · have hv : shwV op d n m imm = .tuple #[str (showL op.toNat ⟨d, n, m, imm⟩), .bool true] := by unfold shwV; rw [hc]; rfl
    have ho : 0 ≤ op ∧ op ≤ 20 := by
      unfold ThRef.canB at hc
      simp at hc
      exact ⟨hc.1.1.1, hc.1.1.2⟩
    obtain ⟨k, rfl⟩ := Int.eq_ofNat_of_zero_le ho.1
    have hk : k < 21 := by omega
    have htk := fun w h => parseShow ((okk_of k hk d n m imm).1 hc) w h
    rw [hv] at hpp hrp
    have et : (k : Int).toNat = k := by simp
    rw [et] at hpp hrp
    simp only at htk
    generalize showL k ⟨d, n, m, imm⟩ = OUT at hpp hrp htk
    have HPP := Lib.hid hpp; have HRP := Lib.hid hrp; have HTK := Lib.hid htk; have HL := Lib.hid hL
    clear hpp hrp htk hv hc ho hL et
    go_enter Tryd.func3, Tryd.ntmps3
    go_wp2_with fail
    refine (HPP.out _ (HL.out.below ((Below.refl _ _).alloc (Nat.le_refl _) _))).mono ?_
    rintro e w1 ⟨rfl, hb1⟩
    obtain ⟨⟨q0, q1, q2, q3, q4⟩, hbw, hz⟩ := cells5 hb1
    have HB := Lib.hid hbw
    clear hb1 hbw
    go_wp2_with fail
    refine (HRP.out _).mono ?_
    rintro e w2 ⟨rfl, hb2⟩
    have p0 := (hb2.cell (p := ⟨W.heap.size, 0, none⟩) hz).trans q0
    have p1 := (hb2.cell (p := ⟨W.heap.size, 1, none⟩) hz).trans q1
    have p2 := (hb2.cell (p := ⟨W.heap.size, 2, none⟩) hz).trans q2
    have p3 := (hb2.cell (p := ⟨W.heap.size, 3, none⟩) hz).trans q3
    have p4 := (hb2.cell (p := ⟨W.heap.size, 4, none⟩) hz).trans q4
    have hz2 : W.heap.size < w2.heap.size := Nat.lt_of_lt_of_le hz hb2.size
    have HB2 := Lib.hid (HB.out.trans (hb2.mono HB.out.size))
    clear q0 q1 q2 q3 q4 hb2 hz
    go_wp2_with fail
    refine (HTK.out _ (HL.out.below HB2.out)).mono ?_
    rintro e w4 ⟨rfl, hb4⟩
    have t0 := (hb4.cell (p := ⟨W.heap.size, 0, none⟩) hz2).trans p0
    have t1 := (hb4.cell (p := ⟨W.heap.size, 1, none⟩) hz2).trans p1
    have t2 := (hb4.cell (p := ⟨W.heap.size, 2, none⟩) hz2).trans p2
    have t3 := (hb4.cell (p := ⟨W.heap.size, 3, none⟩) hz2).trans p3
    have t4 := (hb4.cell (p := ⟨W.heap.size, 4, none⟩) hz2).trans p4
    have hz4 : W.heap.size < w4.heap.size := Nat.lt_of_lt_of_le hz2 hb4.size
    have HB4 := Lib.hid (HB2.out.trans (hb4.mono HB2.out.size))
    clear p0 p1 p2 p3 p4 hz2 hb4
    go_wp2_with fail
    refine (Tx.lives _ (HL.out.below (HB4.out.alloc HB4.out.size _))).mono ?_
    rintro e w5 ⟨rfl, hb5⟩
    go_wp2_with fail
    go_ret
    exact ⟨rfl, (HB4.out.alloc HB4.out.size _).trans (hb5.mono (by have := HB4.out.size; simp; omega))⟩
  · have hc2 : ThRef.canB op d n m imm = false := by simpa using hc
    have hv : shwV op d n m imm = .tuple #[.string ⟨#[]⟩, .bool false] := by unfold shwV; rw [hc2]; rfl
    rw [hv] at hpp hrp
    have HPP := Lib.hid hpp; have HRP := Lib.hid hrp; have HL := Lib.hid hL
    clear hpp hrp hv hc hc2 hL
    go_enter Tryd.func3, Tryd.ntmps3
    go_wp2_with fail
    refine (HPP.out _ (HL.out.below ((Below.refl _ _).alloc (Nat.le_refl _) _))).mono ?_
    rintro e w1 ⟨rfl, hb1⟩
    obtain ⟨⟨q0, q1, q2, q3, q4⟩, hbw, hz⟩ := cells5 hb1
    have HB := Lib.hid hbw
    clear hb1 hbw
    go_wp2_with fail
    refine (HRP.out _).mono ?_
    rintro e w2 ⟨rfl, hb2⟩
    have HB2 := Lib.hid (HB.out.trans (hb2.mono HB.out.size))
    clear q0 q1 q2 q3 q4 hb2 hz
    go_wp2_with fail
    refine (Tx.lives _ (HL.out.below HB2.out)).mono ?_
    rintro e w5 ⟨rfl, hb5⟩
    go_wp2_with fail
    go_ret
    exact ⟨rfl, HB2.out.trans (hb5.mono HB2.out.size)⟩
end Go.Proofs.YthioplijcleioaaDoor.textShows
