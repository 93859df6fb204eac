/- DERIVED. Parse of what Show writes; the laws' living call; the walk of TextShows. By an AI agent. -/
import Derived.Test.YthioplijcleioaaGreatDoorTxParse
namespace Go.Proofs.YthioplijcleioaaGreatDoor.Tx
open Go.ChangeShapes Go.WideShapes Go.ChangeAt Go.RowKit Go.Lib Go.Sort Args
set_option linter.unusedVariables false
theorem wd_asc (ws : List Txt) (hws : ws = aluW ∨ ws = cndW) (j : Nat) : ∀ x ∈ ws[j]?.getD [], x.toNat < 128 := by
  have hall : ∀ y ∈ ws, ∀ x ∈ y, x.toNat < 128 := by rcases hws with rfl | rfl <;> decide
  by_cases hj : j < ws.length
  · rw [List.getElem?_eq_getElem hj]
    exact hall _ (List.getElem_mem hj)
  · rw [List.getElem?_eq_none (by omega)]
    intro x hx
    cases hx
theorem show_asc {c : UInt8} {p : Pl} (hc : plc c = some p) (s : Nm) : ∀ x ∈ p.show s, x.toNat < 128 := by
  unfold Pl.show
  rcases plc_ws hc with h | h
  · rw [if_pos h]
    have hm : p.mark.toNat < 128 := by
      unfold plc at hc
      repeat' (split at hc)
      all_goals first | (cases hc; decide) | cases hc
    intro x hx
    rw [List.mem_cons] at hx
    rcases hx with rfl | hx
    · exact hm
    · have := (itoa_stp _ x hx).2; omega
  · rw [if_neg (by rcases h with h | h <;> rw [h] <;> decide)]
    exact wd_asc p.ws h _
theorem wr_asc (s : Nm) : ∀ (sh : Txt), (∀ c ∈ sh, c.toNat < 128) → ∀ x ∈ wr sh s, x.toNat < 128
  | [], _, x, hx => by cases hx
  | c :: r, h, x, hx => by
    unfold wr at hx
    rw [List.mem_append] at hx
    rcases hx with hx | hx
    · cases hc : plc c with
      | none => rw [hc] at hx; simp only [List.mem_singleton] at hx; rw [hx]; exact h c (by simp)
      | some p => rw [hc] at hx; exact show_asc hc s x hx
    · exact wr_asc s r (fun c hc => h c (by simp [hc])) x hx
theorem showL_asc {k : Nat} (hk : k < 21) (s : Nm) : ∀ x ∈ showL k s, x.toNat < 128 :=
  wr_asc s _ fun c hc => by have := List.all_eq_true.1 (asc_shp ⟨k, hk⟩).1 c hc; simpa using this
theorem showL_len {k : Nat} {s : Nm} (h : Okk k s) : (showL k s).length ≤ 800 := by
  have h1 := wr_len s (shpN k) (okk_wok h)
  have h2 := (asc_shp ⟨k, h.hk⟩).2
  simp only at h2
  show (wr (shpN k) s).length ≤ 800
  omega
/-- Parse of what Show writes. -/
theorem parseShow {k : Nat} {s : Nm} (h : Okk k s) (w : World) (hL : Lw w) :
    Calls Tryz.prog 18 #[str (showL k s)] w fun e w' => e = .returned (.tuple #[.agg #[.int .i64 k, .int .i64 s.d, .int .i64 s.n, .int .i64 s.m, .int .i64 s.i], .int .i64 0]) ∧ Below w.heap.size w w' := by
  have hl := showL_len h
  refine (parseC (showL k s) (by omega) (ix_ascii _ (by omega) (showL_asc h.hk s)) w hL).mono ?_
  rintro e w' ⟨h1, hb⟩
  rcases h1 with ⟨k', s', ok', e', rfl⟩ | ⟨hno, _⟩
  · obtain ⟨rfl, rfl⟩ := show_one ok' h e'
    exact ⟨rfl, hb⟩
  · exact absurd rfl (hno k s h)
theorem ldrT : showL 12 ⟨1, 2, 0, 3⟩ = [108, 100, 114, 32, 114, 49, 44, 32, 91, 114, 50, 44, 32, 35, 49, 50, 93] := by
  simp [showL, shpN, shp, wr, plc, Pl.show, Nm.get, itoa, decDigits]
theorem movT : showL 0 ⟨1, 0, 0, 5⟩ = [109, 111, 118, 115, 32, 114, 49, 44, 32, 35, 53] := by
  simp [showL, shpN, shp, wr, plc, Pl.show, Nm.get, itoa, decDigits]
set_option maxHeartbeats 1000000 in
theorem lives (w : World) (hL : Lw w) : Calls Tryz.prog 9 #[] w fun e w' => e = .returned (.bool true) ∧ Below w.heap.size w w' := by
  have hs := fun W h => showP 12 1 2 0 3 W h
  have e1 : shwV 12 1 2 0 3 = .tuple #[.string ⟨#[108, 100, 114, 32, 114, 49, 44, 32, 91, 114, 50, 44, 32, 35, 49, 50, 93]⟩, .bool true] := by
    have c : ThRef.canB 12 1 2 0 3 = true := by decide +kernel
    unfold shwV
    rw [if_pos c]
    show Value.tuple #[.string ⟨(showL 12 ⟨1, 2, 0, 3⟩).toArray⟩, .bool true] = _
    rw [ldrT]
  have hp := fun W h => parseShow (k := 0) (s := ⟨1, 0, 0, 5⟩) ((okk_of 0 (by decide) 1 0 0 5).1 (by decide +kernel)) W h
  rw [e1] at hs
  rw [movT] at hp
  have hp2 : ∀ W, Lw W → Calls Tryz.prog 18 #[.string ⟨#[109, 111, 118, 115, 32, 114, 49, 44, 32, 35, 53]⟩] W fun e w' => e = .returned (.tuple #[.agg #[.int .i64 0, .int .i64 1, .int .i64 0, .int .i64 0, .int .i64 5], .int .i64 0]) ∧ Below W.heap.size W w' := hp
  have HS := Lib.hid hs; have HP := Lib.hid hp2; have HL := Lib.hid hL
  clear hs hp hp2 e1 hL
  go_enter Tryz.func9, Tryz.ntmps9
  go_wp2_with fail
  refine (HS.out _ HL.out).mono ?_
  rintro e w1 ⟨rfl, hb1⟩
  have HB := Lib.hid hb1
  clear hb1
  go_wp2_with fail
  refine (HP.out _ (HL.out.below HB.out)).mono ?_
  rintro e w2 ⟨rfl, hb2⟩
  have HB2 := Lib.hid (HB.out.trans (hb2.mono HB.out.size))
  clear hb2
  go_wp2_with fail
  go_ret
  exact ⟨rfl, HB2.out.alloc HB2.out.size _⟩
end Go.Proofs.YthioplijcleioaaGreatDoor.Tx
