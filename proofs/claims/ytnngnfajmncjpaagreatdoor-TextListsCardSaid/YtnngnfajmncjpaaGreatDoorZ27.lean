/- DERIVED. TxLs, TxLv in one text. By an AI agent. -/
import Derived.Test.YtnngnfajmncjpaaGreatDoorZ26
import Derived.Test.YtnngnfajmncjpaaGreatDoorZ19
/- DERIVED. The lines of code. By an AI agent. -/
namespace Go.Proofs.YtnngnfajmncjpaaGreatDoor.Tx
open Go.ChangeShapes Go.WideShapes Go.ChangeAt Go.RowKit Go.Lib Go.Sort Args
set_option linter.unusedVariables false
def listL : List Nat → Txt
  | [] => []
  | h :: r => lineL h ++ 10 :: listL r
theorem listL_app (a b : List Nat) : listL (a ++ b) = listL a ++ listL b := by
  induction a with
  | nil => rfl
  | cons x a ih => simp [listL, ih]
theorem lineL_len (h : Nat) (hh : h < 65536) : (lineL h).length ≤ 800 := by
  rcases take_cases h hh with ⟨k, s, hok, ht, hp, hl⟩ | ⟨k, e, s, ht, he, hl⟩
  · rw [hl]
    have h1 := wr_len (nm s) (shpN k) (okk_wok hok)
    have h2 := (asc_shp ⟨k, hok.hk⟩).2
    simp only at h2
    show (wr (shpN k) (nm s)).length ≤ 800
    omega
  · rw [hl, List.length_cons, Lives.fixD_len]
    decide
theorem listL_len : ∀ (zs : List Nat), (∀ z ∈ zs, z < 65536) → (listL zs).length ≤ zs.length * 801
  | [], _ => by simp [listL]
  | z :: r, h => by
    have h1 := lineL_len z (h z (by simp))
    have h2 := listL_len r fun x hx => h x (by simp [hx])
    simp only [listL, List.length_append, List.length_cons]
    omega
set_option maxHeartbeats 2000000 in
set_option maxRecDepth 100000 in
theorem listC (A : Option Addr) (cap : Nat) (zs : List Nat) (hzs : ∀ z ∈ zs, z < 65536) (hlen : zs.length ≤ 1000) (w : World) (hL : Lz w) (hC : Lies w A (zs.map fun z : Nat => Value.int .u16 (z : Int))) :
    Calls Tryz.prog 4 #[.slice A zs.length cap] w fun e w' => e = .returned (.string ⟨(listL zs).toArray⟩) ∧ Below w.heap.size w w' := by
  have hb1 : Bld.IsB w.heap.size [] (w.alloc (.cells #[.pointer none, .slice none 0 0] 33)) ∧ Below w.heap.size w (w.alloc (.cells #[.pointer none, .slice none 0 0] 33)) := ⟨IsBuilderF.of (fresh_isBuilder 33 5 w), (Below.refl _ w).alloc (Nat.le_refl _) _⟩
  have HB1 := Lib.hid hb1; have HL := Lib.hid hL; have HC := Lib.hid hC; have HZ := Lib.hid hzs
  clear hb1 hL hC hzs
  go_enter Tryz.func4, Tryz.ntmps4
  go_wp2_with fail
  generalize w.alloc (.cells #[.pointer none, .slice none 0 0] 33) = w1 at *
  have hlz : ∀ W, Below w.heap.size w W → Lz W := fun W hb => HL.out.below hb
  have hcw : ∀ (i : Nat) (hi : i < zs.length), ∃ b o, A = some ⟨b, o, none⟩ ∧ ∀ W, Below w.heap.size w W → W.cell? ⟨b, o + i, none⟩ = some (.int .u16 ((zs[i]'hi : Nat) : Int)) := fun i hi => by
    have hx : (zs.map fun z : Nat => Value.int .u16 (z : Int))[i]? = some (.int .u16 ((zs[i]'hi : Nat) : Int)) := by simp [hi]
    obtain ⟨b, o, hA, hb, hv⟩ := HC.out.at_ hx
    exact ⟨b, o, hA, fun W hW => (hW.cell (p := ⟨b, o + i, none⟩) hb).trans (hv i _ hx)⟩
  generalize hn0 : w.heap.size = n0 at *
  have HLZ := Lib.hid hlz; have HCW := Lib.hid hcw; have HN0 := Lib.hid hn0
  clear hlz hcw hn0 HC HL
  go_loopg [9] zs.length (fun g v9 wr => ∃ (i : Nat), g = zs.length - i ∧ i ≤ zs.length ∧ v9 = .int .i64 i ∧ Hid (Bld.IsB n0 (listL (zs.take i)) wr ∧ Below n0 w wr))
  case atStart => exact ⟨0, by omega, by omega, rfl, Lib.hid ⟨HB1.out.1, HB1.out.2⟩⟩
  case round =>
    obtain ⟨i, rfl, hi, rfl, HH⟩ := hrel
    by_cases hlt : i < zs.length
    · have hii : (i : Int) < (zs.length : Nat) := by omega
      obtain ⟨b, o, rfl, hc⟩ := HCW.out i hlt
      have hcc := hc _ HH.out.2
      have hln := fun W hW => lineC (zs[i]'hlt) (HZ.out _ (List.getElem_mem hlt)) W hW
      have hl0 : (listL (zs.take i)).length + (lineL (zs[i]'hlt)).length ≤ 1000000 := by
        have h1 := listL_len (zs.take i) fun z hz => HZ.out z (List.mem_of_mem_take hz)
        have h2 := lineL_len (zs[i]'hlt) (HZ.out _ (List.getElem_mem hlt))
        rw [List.length_take] at h1
        omega
      have hnx : listL (zs.take (i + 1)) = listL (zs.take i) ++ lineL (zs[i]'hlt) ++ [10] := by
        rw [List.take_succ_eq_append_getElem hlt, listL_app]
        simp [listL]
      have HLN := Lib.hid hln; have HL0 := Lib.hid hl0; have HNX := Lib.hid hnx
      clear hln hl0 hnx hc
      generalize zs[i]'hlt = z at *
      generalize lineL z = OUT at *
      have hwb : ∀ L W, Bld.IsB n0 L W → L.length ≤ 1000000000 → Calls Tryz.prog 11 #[.pointer (some ⟨n0, 0, none⟩), .int .u8 10] W fun e w' => e = .returned .nilIface ∧ Bld.IsB n0 (L ++ [10]) w' ∧ Bld.Kept n0 W w' := fun L W h hl => Bld.wbyte n0 L 10 W h hl
      have HWB := Lib.hid hwb
      clear hwb
      go_wp2_with fail
      refine (HLN.out _ (HLZ.out _ HH.out.2)).mono ?_
      rintro e w2 ⟨rfl, hb2⟩
      have H2 := Lib.hid (And.intro (isB_below HH.out.1 hb2) (HH.out.2.trans (hb2.mono (Nat.le_of_lt HH.out.1.lt))))
      clear hb2 hcc
      go_wp2_with fail
      refine (Bld.wstr n0 _ OUT _ H2.out.1 (by have := HL0.out; omega)).mono ?_
      rintro e w3 ⟨⟨x, rfl⟩, h3, k3⟩
      have H3 := Lib.hid (And.intro h3 (H2.out.2.trans k3.low))
      clear h3 k3
      go_wp2_with fail
      refine (HWB.out _ _ H3.out.1 (by have := HL0.out; rw [List.length_append]; omega)).mono ?_
      rintro e w4 ⟨rfl, h4, k4⟩
      have H4 := Lib.hid (And.intro (HNX.out.symm ▸ h4 : Bld.IsB n0 (listL (zs.take (i + 1))) w4) (H3.out.2.trans k4.low))
      clear h4 k4
      go_wp2_with fail
      go_roundg (zs.length - (i + 1))
      case measure => omega
      case rel => exact ⟨i + 1, rfl, by omega, by go_num, H4⟩
    · obtain rfl : i = zs.length := by omega
      have hlz := listL_len zs HZ.out
      have hstr := Tryz.Builder_String_any_k n0 n0 (listL zs) wr (by have := HH.out.1; rw [List.take_length] at this; exact this) (by have := HH.out.1.lt; omega)
      have HS := Lib.hid hstr
      clear hstr hlz
      go_wp2_with fail
      refine HS.out.mono ?_
      rintro e W5 ⟨rfl, _, hb5, _⟩
      have HB5 := Lib.hid hb5
      clear hb5
      go_wp2_with fail
      go_ret
      exact ⟨rfl, HN0.out ▸ HH.out.2.trans HB5.out⟩
end Go.Proofs.YtnngnfajmncjpaaGreatDoor.Tx
/- DERIVED. Parse of what Show writes; the laws' living call; the walk of TextShows. By an AI agent. -/
namespace Go.Proofs.YtnngnfajmncjpaaGreatDoor.Tx
open Go.ChangeShapes Go.WideShapes Go.ChangeAt Go.RowKit Go.Lib Go.Sort Args
set_option linter.unusedVariables false
theorem wd_asc (ws : List Txt) (hws : ws = aluW ∨ ws = cndW) (j : Nat) : ∀ x ∈ ws[j]?.getD [], x.toNat < 128 := by
  have hall : ∀ y ∈ ws, ∀ x ∈ y, x.toNat < 128 := by rcases hws with rfl | rfl <;> decide
  by_cases hj : j < ws.length
  · rw [List.getElem?_eq_getElem hj]
    exact hall _ (List.getElem_mem hj)
  · rw [List.getElem?_eq_none (by omega)]
    intro x hx
    cases hx
theorem show_asc {c : UInt8} {p : Pl} (hc : plc c = some p) (s : Nm) : ∀ x ∈ p.show s, x.toNat < 128 := by
  unfold Pl.show
  rcases plc_ws hc with h | h
  · rw [if_pos h]
    have hm : p.mark.toNat < 128 := by
      unfold plc at hc
      repeat' (split at hc)
      all_goals first | (cases hc; decide) | cases hc
    intro x hx
    rw [List.mem_cons] at hx
    rcases hx with rfl | hx
    · exact hm
    · have := (itoa_stp _ x hx).2; omega
  · rw [if_neg (by rcases h with h | h <;> rw [h] <;> decide)]
    exact wd_asc p.ws h _
theorem wr_asc (s : Nm) : ∀ (sh : Txt), (∀ c ∈ sh, c.toNat < 128) → ∀ x ∈ wr sh s, x.toNat < 128
  | [], _, x, hx => by cases hx
  | c :: r, h, x, hx => by
    unfold wr at hx
    rw [List.mem_append] at hx
    rcases hx with hx | hx
    · cases hc : plc c with
      | none => rw [hc] at hx; simp only [List.mem_singleton] at hx; rw [hx]; exact h c (by simp)
      | some p => rw [hc] at hx; exact show_asc hc s x hx
    · exact wr_asc s r (fun c hc => h c (by simp [hc])) x hx
theorem showL_asc {k : Nat} (hk : k < 21) (s : Nm) : ∀ x ∈ showL k s, x.toNat < 128 :=
  wr_asc s _ fun c hc => by have := List.all_eq_true.1 (asc_shp ⟨k, hk⟩).1 c hc; simpa using this
theorem showL_len {k : Nat} {s : Nm} (h : Okk k s) : (showL k s).length ≤ 800 := by
  have h1 := wr_len s (shpN k) (okk_wok h)
  have h2 := (asc_shp ⟨k, h.hk⟩).2
  simp only at h2
  show (wr (shpN k) s).length ≤ 800
  omega
/-- Parse of what Show writes. -/
theorem parseShow {k : Nat} {s : Nm} (h : Okk k s) (w : World) (hL : Lw w) :
    Calls Tryz.prog 17 #[str (showL k s)] w fun e w' => e = .returned (.tuple #[.agg #[.int .i64 k, .int .i64 s.d, .int .i64 s.n, .int .i64 s.m, .int .i64 s.i], .int .i64 0]) ∧ Below w.heap.size w w' := by
  have hl := showL_len h
  refine (parseC (showL k s) (by omega) (ix_ascii _ (by omega) (showL_asc h.hk s)) w hL).mono ?_
  rintro e w' ⟨h1, hb⟩
  rcases h1 with ⟨k', s', ok', e', rfl⟩ | ⟨hno, _⟩
  · obtain ⟨rfl, rfl⟩ := show_one ok' h e'
    exact ⟨rfl, hb⟩
  · exact absurd rfl (hno k s h)
theorem ldrT : showL 12 ⟨1, 2, 0, 3⟩ = [108, 100, 114, 32, 114, 49, 44, 32, 91, 114, 50, 44, 32, 35, 49, 50, 93] := by
  simp [showL, shpN, shp, wr, plc, Pl.show, Nm.get, itoa, decDigits]
theorem movT : showL 0 ⟨1, 0, 0, 5⟩ = [109, 111, 118, 115, 32, 114, 49, 44, 32, 35, 53] := by
  simp [showL, shpN, shp, wr, plc, Pl.show, Nm.get, itoa, decDigits]
set_option maxHeartbeats 1000000 in
theorem lives (w : World) (hL : Lw w) : Calls Tryz.prog 8 #[] w fun e w' => e = .returned (.bool true) ∧ Below w.heap.size w w' := by
  have hs := fun W h => showP 12 1 2 0 3 W h
  have e1 : shwV 12 1 2 0 3 = .tuple #[.string ⟨#[108, 100, 114, 32, 114, 49, 44, 32, 91, 114, 50, 44, 32, 35, 49, 50, 93]⟩, .bool true] := by
    have c : ThRef.canB 12 1 2 0 3 = true := by decide +kernel
    unfold shwV
    rw [if_pos c]
    show Value.tuple #[.string ⟨(showL 12 ⟨1, 2, 0, 3⟩).toArray⟩, .bool true] = _
    rw [ldrT]
  have hp := fun W h => parseShow (k := 0) (s := ⟨1, 0, 0, 5⟩) ((okk_of 0 (by decide) 1 0 0 5).1 (by decide +kernel)) W h
  rw [e1] at hs
  rw [movT] at hp
  have hp2 : ∀ W, Lw W → Calls Tryz.prog 17 #[.string ⟨#[109, 111, 118, 115, 32, 114, 49, 44, 32, 35, 53]⟩] W fun e w' => e = .returned (.tuple #[.agg #[.int .i64 0, .int .i64 1, .int .i64 0, .int .i64 0, .int .i64 5], .int .i64 0]) ∧ Below W.heap.size W w' := hp
  have HS := Lib.hid hs; have HP := Lib.hid hp2; have HL := Lib.hid hL
  clear hs hp hp2 e1 hL
  go_enter Tryz.func8, Tryz.ntmps8
  go_wp2_with fail
  refine (HS.out _ HL.out).mono ?_
  rintro e w1 ⟨rfl, hb1⟩
  have HB := Lib.hid hb1
  clear hb1
  go_wp2_with fail
  refine (HP.out _ (HL.out.below HB.out)).mono ?_
  rintro e w2 ⟨rfl, hb2⟩
  have HB2 := Lib.hid (HB.out.trans (hb2.mono HB.out.size))
  clear hb2
  go_wp2_with fail
  go_ret
  exact ⟨rfl, HB2.out.alloc HB2.out.size _⟩
end Go.Proofs.YtnngnfajmncjpaaGreatDoor.Tx
