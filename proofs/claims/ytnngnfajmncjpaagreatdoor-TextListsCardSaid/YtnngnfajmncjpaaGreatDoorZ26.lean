/- DERIVED. TxLn in one text. By an AI agent. -/
import Derived.Test.YtnngnfajmncjpaaGreatDoorZ19
import Derived.Test.YtnngnfajmncjpaaGreatDoorZ23
import Derived.Test.YtnngnfajmncjpaaGreatDoorZ24
import Derived.Test.YtnngnfajmncjpaaGreatDoorZ25
/- DERIVED. A halfword's line. By an AI agent. -/
namespace Go.Proofs.YtnngnfajmncjpaaGreatDoor.Tx
open Go.ChangeShapes Go.WideShapes Go.ChangeAt Go.RowKit Go.Lib Go.Sort Args
set_option linter.unusedVariables false
/-- What the lines lean on. -/
structure Lz (w : World) : Prop where
  lw : Lw w
  at16 : Lives.At16 w
theorem Lz.below {w w' : World} (h : Lz w) (hb : Below w.heap.size w w') : Lz w' := ⟨h.lw.below hb, (hb.cell (World.block_lt_of_cell? _ _ h.at16)).trans h.at16⟩
def nm (s : Tp.Nums) : Nm := ⟨s.d, s.n, s.m, s.i⟩
def lineL (h : Nat) : Txt := if (Tp.takeF 21 0 h).2.2 = 0 then showL (Tp.takeF 21 0 h).1 (nm (Tp.takeF 21 0 h).2.1) else 63 :: Lives.fixD h 4
theorem take_cases (h : Nat) (hh : h < 65536) :
    (∃ (k : Nat) (s : Tp.Nums), Okk k (nm s) ∧ Tp.takeF 21 0 h = (k, s, 0) ∧ Tp.putI k s.d s.n s.m s.i = h ∧ lineL h = showL k (nm s)) ∨
    (∃ (k e : Nat) (s : Tp.Nums), Tp.takeF 21 0 h = (k, s, e) ∧ e ≠ 0 ∧ lineL h = 63 :: Lives.fixD h 4) := by
  obtain ⟨⟨k, s, e⟩, ht⟩ : ∃ x, Tp.takeF 21 0 h = x := ⟨_, rfl⟩
  by_cases he : e = 0
  · subst he
    obtain ⟨h1, h2, h3, h4⟩ := Tp.takeF_ok h 21 0 k s ht
    have hk : k < 21 := by omega
    refine .inl ⟨k, s, (okk_of k hk _ _ _ _).1 h2, ht, ?_, ?_⟩
    · have := Tp.put_take k hk h hh h1 (h3 ▸ h2)
      rw [← h3] at this
      exact this
    · unfold lineL; rw [ht]; rfl
  · exact .inr ⟨k, e, s, ht, he, by unfold lineL; rw [ht]; exact if_neg he⟩
/-- No instruction's text has a mark of a halfword that is none. -/
theorem show_no63 {c : UInt8} {p : Pl} (hc : plc c = some p) (s : Nm) : ∀ x ∈ p.show s, x ≠ 63 := by
  unfold Pl.show
  rcases plc_ws hc with h | h
  · rw [if_pos h]
    have hm : p.mark ≠ 63 := by
      unfold plc at hc
      repeat' (split at hc)
      all_goals first | (cases hc; decide) | cases hc
    intro x hx
    rw [List.mem_cons] at hx
    rcases hx with rfl | hx
    · exact hm
    · have := (itoa_stp _ x hx).2
      intro he
      rw [he] at this
      exact absurd this (by decide)
  · rw [if_neg (by rcases h with h | h <;> rw [h] <;> decide)]
    have hall : ∀ y ∈ p.ws, ∀ x ∈ y, x ≠ 63 := by rcases h with h | h <;> rw [h] <;> decide
    generalize (s.get p.of).toNat = j
    by_cases hj : j < p.ws.length
    · rw [List.getElem?_eq_getElem hj]
      exact hall _ (List.getElem_mem hj)
    · rw [List.getElem?_eq_none (by omega)]
      intro x hx
      cases hx
theorem wr_no63 (s : Nm) : ∀ (sh : Txt), (∀ c ∈ sh, c ≠ 63) → ∀ x ∈ wr sh s, x ≠ 63
  | [], _, x, hx => by cases hx
  | c :: r, h, x, hx => by
    unfold wr at hx
    rw [List.mem_append] at hx
    rcases hx with hx | hx
    · cases hc : plc c with
      | none => rw [hc] at hx; simp only [List.mem_singleton] at hx; rw [hx]; exact h c (by simp)
      | some p => rw [hc] at hx; exact show_no63 hc s x hx
    · exact wr_no63 s r (fun c hc => h c (by simp [hc])) x hx
theorem shp_no63 : ∀ k : Fin 21, ∀ c ∈ shpN k.1, c ≠ 63 := by decide +kernel
theorem line_inj {a b : Nat} (ha : a < 65536) (hb : b < 65536) (h : lineL a = lineL b) : a = b := by
  have no : ∀ (k : Nat) (s : Nm), Okk k s → ∀ t, showL k s ≠ 63 :: t := fun k s hok t he => by
    have := wr_no63 s (shpN k) (shp_no63 ⟨k, hok.hk⟩) 63 (by show (63 : UInt8) ∈ showL k s; rw [he]; simp)
    exact this rfl
  rcases take_cases a ha with ⟨k, s, hok, ht, hp, hl⟩ | ⟨k, e, s, ht, he, hl⟩
  · rcases take_cases b hb with ⟨k', s', hok', ht', hp', hl'⟩ | ⟨k', e', s', ht', he', hl'⟩
    · rw [hl, hl'] at h
      obtain ⟨rfl, hs⟩ := show_one hok hok' h
      have : s = s' := by
        cases s; cases s'
        simp only [nm, Nm.mk.injEq] at hs
        obtain ⟨rfl, rfl, rfl, rfl⟩ := hs
        rfl
      subst this
      exact hp.symm.trans hp'
    · rw [hl, hl'] at h
      exact absurd h (no k _ hok _)
  · rcases take_cases b hb with ⟨k', s', hok', ht', hp', hl'⟩ | ⟨k', e', s', ht', he', hl'⟩
    · rw [hl, hl'] at h
      exact absurd h.symm (no k' _ hok' _)
    · rw [hl, hl'] at h
      exact Lives.fix4_inj ha hb (List.cons.inj h).2
theorem hex_from (h : Nat) (hh : h < 65536) : ((⟨(Lives.hex8 h).toArray⟩ : ByteArray).extract 6 (⟨(Lives.hex8 h).toArray⟩ : ByteArray).size) = ⟨(Lives.fixD h 4).toArray⟩ ∧ (⟨(Lives.hex8 h).toArray⟩ : ByteArray).size = 10 := by
  rw [Lives.hex8_fix h (by omega)]
  exact ⟨rfl, rfl⟩
set_option maxHeartbeats 2000000 in
set_option maxRecDepth 100000 in
theorem lineC (h : Nat) (hh : h < 65536) (w : World) (hL : Lz w) : Calls Tryz.prog 10 #[.int .u16 h] w fun e w' => e = .returned (.string ⟨(lineL h).toArray⟩) ∧ Below w.heap.size w w' := by
  have htk := fun W hW => Tp.takeP h hh W hW
  rcases take_cases h hh with ⟨k, s, hok, ht, hp, hl⟩ | ⟨k, e, s, ht, he, hl⟩
  · rw [hl]
    have htk2 : ∀ W, Tp.Tb W → Calls Tryz.prog 19 #[.int .u16 h] W fun e w' => e = .returned (.tuple #[.agg #[.int .i64 k, .int .i64 s.d, .int .i64 s.n, .int .i64 s.m, .int .i64 s.i], .int .i64 0]) ∧ Below W.heap.size W w' := fun W hW => by
      have := htk W hW
      rw [ht] at this
      exact this
    have hsh := fun W hW => showP k s.d s.n s.m s.i W hW
    have hv : shwV k s.d s.n s.m s.i = .tuple #[.string ⟨(showL k (nm s)).toArray⟩, .bool true] := by unfold shwV; rw [if_pos ((okk_of k hok.hk _ _ _ _).2 hok)]; rfl
    rw [hv] at hsh
    have HTK := Lib.hid htk2; have HSH := Lib.hid hsh; have HL := Lib.hid hL
    clear htk htk2 hsh hv hok ht hp hl hL
    generalize showL k (nm s) = OUT at *
    go_enter Tryz.func10, Tryz.ntmps10
    go_wp2_with fail
    refine (HTK.out _ HL.out.lw.tb).mono ?_
    rintro e w1 ⟨rfl, hb1⟩
    have HB := Lib.hid (hb1.alloc hb1.size (.cells #[.int .i64 k, .int .i64 s.d, .int .i64 s.n, .int .i64 s.m, .int .i64 s.i] 50))
    clear hb1
    go_wp2_with fail
    refine (HSH.out _ (HL.out.lw.below HB.out)).mono ?_
    rintro e w2 ⟨rfl, hb2⟩
    have HB2 := Lib.hid (HB.out.trans (hb2.mono HB.out.size))
    clear hb2
    go_wp2_with fail
    go_ret
    exact ⟨rfl, HB2.out⟩
  · rw [hl]
    have htk2 : ∀ W, Tp.Tb W → Calls Tryz.prog 19 #[.int .u16 h] W fun z w' => z = .returned (.tuple #[.agg #[.int .i64 k, .int .i64 s.d, .int .i64 s.n, .int .i64 s.m, .int .i64 s.i], .int .i64 e]) ∧ Below W.heap.size W w' := fun W hW => by
      have := htk W hW
      rw [ht] at this
      exact this
    have hx := fun W h1 h2 => Lives.hex h (by omega) W h1 h2
    obtain ⟨hf, hz⟩ := hex_from h hh
    have hne : ((e : Int) == 0) = false := by simp; omega
    have hsl : ∀ W, (Instr.slice 9 (.string ⟨(Lives.hex8 h).toArray⟩) (some (.int .i64 6)) none none).run Tryz.prog W = .ok (.string ⟨(Lives.fixD h 4).toArray⟩) W := fun W => by
      have := slice_from ⟨(Lives.hex8 h).toArray⟩ 6 (by rw [hz]; decide) W
      rw [hf] at this
      exact this
    have HTK := Lib.hid htk2; have HX := Lib.hid hx; have HL := Lib.hid hL; have HSL := Lib.hid hsl
    clear htk htk2 hx ht hl hL hf hz he
    generalize Lives.hex8 h = H8 at *
    go_enter Tryz.func10, Tryz.ntmps10
    go_wp2_with fail
    refine (HTK.out _ HL.out.lw.tb).mono ?_
    rintro e w1 ⟨rfl, hb1⟩
    have HB := Lib.hid (hb1.alloc hb1.size (.cells #[.int .i64 k, .int .i64 s.d, .int .i64 s.n, .int .i64 s.m, .int .i64 s.i] 50))
    clear hb1
    go_wp2_with fail
    have hL2 := HL.out.below HB.out
    refine (HX.out _ hL2.at16 (World.block_lt_of_cell? _ _ hL2.at16)).mono ?_
    rintro e w2 ⟨rfl, hb2⟩
    have HB2 := Lib.hid (HB.out.trans (hb2.mono HB.out.size))
    clear hb2 hL2
    have hs2 := HSL.out w2
    go_wp2_with fail
    go_ret
    refine ⟨?_, HB2.out⟩
    generalize Lives.fixD h 4 = D4
    show Ending.returned (.string (ByteArray.mk #[63] ++ ByteArray.mk D4.toArray)) = _
    have : ByteArray.mk #[63] ++ ByteArray.mk D4.toArray = ByteArray.mk (63 :: D4).toArray := by
      apply ByteArray.ext
      simp
    rw [this]
end Go.Proofs.YtnngnfajmncjpaaGreatDoor.Tx
