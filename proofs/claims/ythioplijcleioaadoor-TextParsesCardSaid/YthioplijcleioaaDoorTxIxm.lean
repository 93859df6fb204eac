/- DERIVED. TxIx, TxIx2, TxIx3 in one text. By an AI agent. -/
import Derived.Test.YthioplijcleioaaDoorTxRead
import Derived.Laws.RangeAny
import Derived.Lib.DecodeN
import Derived.Lib.OthersKept
import Derived.Shelf.Small.Strs
import Derived.Shelf.Strings.IndexAny
/- DERIVED. strings.IndexRune at a rune that is no ASCII, in the three letters that end a number; runes of any bytes. By an AI agent. -/
namespace Go.Proofs.YthioplijcleioaaDoor.Tx
open Go.ChangeShapes Go.WideShapes Go.ChangeAt Go.RowKit Go.Lib Go.Shelf
set_option linter.unusedVariables false
/-- A rune that begins with a byte that is no ASCII: all of its bytes are none, and they are there. -/
theorem dec_span (s : ByteArray) (pos : Nat) (h : pos < s.size) (ha : 128 ≤ (s.get! pos).toNat) :
    1 ≤ (Utf8.decode s pos).2 ∧ pos + (Utf8.decode s pos).2 ≤ s.size ∧ ∀ j, pos ≤ j → j < pos + (Utf8.decode s pos).2 → 128 ≤ (s.get! j).toNat := by
  rw [decode_at]
  have hn : 1 ≤ s.size - pos := by omega
  have key : ∀ n b0 b1 b2 b3 : Nat, 1 ≤ n → 128 ≤ b0 → 1 ≤ (decodeN n b0 b1 b2 b3).2 ∧ (decodeN n b0 b1 b2 b3).2 ≤ n ∧ (decodeN n b0 b1 b2 b3).2 ≤ 4 ∧ (1 < (decodeN n b0 b1 b2 b3).2 → 128 ≤ b1) ∧ (2 < (decodeN n b0 b1 b2 b3).2 → 128 ≤ b2) ∧ (3 < (decodeN n b0 b1 b2 b3).2 → 128 ≤ b3) := by
    intro n b0 b1 b2 b3 h1 h2
    unfold decodeN
    rw [if_neg (by omega)]
    repeat' split
    all_goals (simp only; omega)
  obtain ⟨k1, k2, k3, k4, k5, k6⟩ := key (s.size - pos) (s.get! pos).toNat (s.get! (pos + 1)).toNat (s.get! (pos + 2)).toNat (s.get! (pos + 3)).toNat hn ha
  generalize (decodeN (s.size - pos) (s.get! pos).toNat (s.get! (pos + 1)).toNat (s.get! (pos + 2)).toNat (s.get! (pos + 3)).toNat).2 = wd at *
  refine ⟨k1, by omega, fun j hj1 hj2 => ?_⟩
  have hc : j = pos ∨ (j = pos + 1 ∧ 1 < wd) ∨ (j = pos + 2 ∧ 2 < wd) ∨ (j = pos + 3 ∧ 3 < wd) := by omega
  rcases hc with rfl | ⟨rfl, h⟩ | ⟨rfl, h⟩ | ⟨rfl, h⟩
  · exact ha
  · exact k4 h
  · exact k5 h
  · exact k6 h
/-- A rune that is no ASCII is written in two to four bytes, none of them ASCII. -/
def HiBytes (b : ByteArray) : Prop := (∃ x y : UInt8, b = ⟨#[x, y]⟩ ∧ 128 ≤ x.toNat ∧ 128 ≤ y.toNat) ∨ (∃ x y z : UInt8, b = ⟨#[x, y, z]⟩ ∧ 128 ≤ x.toNat ∧ 128 ≤ y.toNat ∧ 128 ≤ z.toNat) ∨ ∃ x y z v : UInt8, b = ⟨#[x, y, z, v]⟩ ∧ 128 ≤ x.toNat ∧ 128 ≤ y.toNat ∧ 128 ≤ z.toNat ∧ 128 ≤ v.toNat
theorem hi_byte (n : Nat) (h : 128 ≤ n) (h2 : n < 256) : 128 ≤ (UInt8.ofNat n).toNat := by rw [UInt8.toNat_ofNat']; omega
theorem enc_hi (r : Int) (h : 128 ≤ r) : HiBytes (Utf8.encode r) := by
  unfold Utf8.encode
  have key : ∀ c : Nat, 128 ≤ c → c ≤ 1114111 → HiBytes (if c < 0x80 then ⟨#[UInt8.ofNat c]⟩ else if c < 0x800 then ⟨#[UInt8.ofNat (0xC0 + c / 64), UInt8.ofNat (0x80 + c % 64)]⟩ else if c < 0x10000 then ⟨#[UInt8.ofNat (0xE0 + c / 4096), UInt8.ofNat (0x80 + c / 64 % 64), UInt8.ofNat (0x80 + c % 64)]⟩ else ⟨#[UInt8.ofNat (0xF0 + c / 262144), UInt8.ofNat (0x80 + c / 4096 % 64), UInt8.ofNat (0x80 + c / 64 % 64), UInt8.ofNat (0x80 + c % 64)]⟩) := by
    intro c h1 h2
    rw [if_neg (by omega)]
    split
    · exact .inl ⟨_, _, rfl, hi_byte _ (by omega) (by omega), hi_byte _ (by omega) (by omega)⟩
    · split
      · exact .inr (.inl ⟨_, _, _, rfl, hi_byte _ (by omega) (by omega), hi_byte _ (by omega) (by omega), hi_byte _ (by omega) (by omega)⟩)
      · exact .inr (.inr ⟨_, _, _, _, rfl, hi_byte _ (by omega) (by omega), hi_byte _ (by omega) (by omega), hi_byte _ (by omega) (by omega), hi_byte _ (by omega) (by omega)⟩)
  by_cases hv : Utf8.valid r = true
  · have hb : r ≤ 1114111 := by unfold Utf8.valid at hv; simp at hv; omega
    simp only [hv, if_true]
    exact key r.toNat (by omega) (by omega)
  · simp only [hv, if_false, Bool.false_eq_true]
    exact key Utf8.runeError (by decide) (by decide)
set_option maxHeartbeats 1000000 in
theorem validR (r : Int) (h : 128 ≤ r) (h2 : r ≤ 2147483647) (w : World) : Calls Tryd.prog 58 #[.int .i32 r] w fun e w' => (e = .returned (.bool true) ∨ e = .returned (.bool false)) ∧ w = w' := by
  have hc : (r < 55296) ∨ (55296 ≤ r ∧ r ≤ 57343) ∨ (57344 ≤ r ∧ r ≤ 1114111) ∨ 1114112 ≤ r := by omega
  rcases hc with hc | ⟨hc, hc2⟩ | ⟨hc, hc2⟩ | hc
  all_goals
    go_enter Tryd.func58, Tryd.ntmps58
    go_wp2_with fail
    go_ret
    first | exact ⟨.inl rfl, rfl⟩ | exact ⟨.inr rfl, rfl⟩
theorem ix1 (s : ByteArray) (c : Int) (w : World) : Calls Tryd.prog 57 #[.string s, .int .u8 c] w fun e w' => e = .returned (.int .i64 (Lib.indexByte s.data.toList c.toNat.toUInt8)) ∧ w' = w := Any.strings_IndexByte { Tryd.lays152 with } s c w
end Go.Proofs.YthioplijcleioaaDoor.Tx
/- DERIVED. strings.IndexRune at a rune that is no ASCII, in the three letters that end a number. By an AI agent. -/
namespace Go.Proofs.YthioplijcleioaaDoor.Tx
open Go.ChangeShapes Go.WideShapes Go.ChangeAt Go.RowKit Go.Lib Go.Shelf
set_option linter.unusedVariables false
abbrev Sep : ByteArray := ⟨#[32, 44, 93]⟩
set_option maxRecDepth 100000 in
set_option maxHeartbeats 4000000 in
theorem idxErr (w : World) : Calls Tryd.prog 41 #[.string Sep, .int .i32 65533] w fun e w' => e = .returned (.int .i64 (-1)) ∧ Below w.heap.size w w' := by
  go_enter Tryd.func41, Tryd.ntmps41
  go_wp2_with fail
  go_loopg [5, 6] 3 (fun g _ _ wx => ∃ i : Nat, i + g = 3 ∧ wx = w.iter Sep i)
  case atStart => exact ⟨0, rfl, rfl⟩
  case round =>
    obtain ⟨i, hig, rfl⟩ := hrel
    cases gk with
    | zero =>
      obtain rfl : i = 3 := by omega
      have hnx := fun ty => run_next_end (P := Tryd.prog) w Sep 3 ty (by decide)
      go_wp2_with fail
      go_ret
      exact ⟨rfl, (Below.refl _ _).alloc (Nat.le_refl _) _⟩
    | succ g =>
      have hi : i = 0 ∨ i = 1 ∨ i = 2 := by omega
      rcases hi with rfl | rfl | rfl
      · have hnx : ∀ ty, (Instr.next (.pointer (some ⟨w.heap.size, 0, none⟩)) true ty).run Tryd.prog (w.iter Sep 0) = .ok (.tuple #[.bool true, .int .i64 0, .int .i32 32]) (w.iter Sep 1) := fun ty => run_next_ascii (P := Tryd.prog) w Sep 0 ty (by decide) (by decide)
        go_wp2_with fail
        go_roundg g
        case measure => omega
        case rel => exact ⟨1, by omega, rfl⟩
      · have hnx : ∀ ty, (Instr.next (.pointer (some ⟨w.heap.size, 0, none⟩)) true ty).run Tryd.prog (w.iter Sep 1) = .ok (.tuple #[.bool true, .int .i64 1, .int .i32 44]) (w.iter Sep 2) := fun ty => run_next_ascii (P := Tryd.prog) w Sep 1 ty (by decide) (by decide)
        go_wp2_with fail
        go_roundg g
        case measure => omega
        case rel => exact ⟨2, by omega, rfl⟩
      · have hnx : ∀ ty, (Instr.next (.pointer (some ⟨w.heap.size, 0, none⟩)) true ty).run Tryd.prog (w.iter Sep 2) = .ok (.tuple #[.bool true, .int .i64 2, .int .i32 93]) (w.iter Sep 3) := fun ty => run_next_ascii (P := Tryd.prog) w Sep 2 ty (by decide) (by decide)
        go_wp2_with fail
        go_roundg g
        case measure => omega
        case rel => exact ⟨3, by omega, rfl⟩
theorem ixb_none (c : UInt8) : ∀ l : Txt, (∀ b ∈ l, b ≠ c) → Lib.indexByte l c = -1
  | [], _ => rfl
  | b :: l, h => by
    have ih := ixb_none c l fun x hx => h x (by simp [hx])
    have hb : (b == c) = false := by simpa using h b (by simp)
    simp [Lib.indexByte, hb, ih]
theorem ixNo (s : ByteArray) (c : Int) (hs : (s.data.toList.all fun b => decide (b.toNat < 128)) = true) (h0 : 128 ≤ c) (h1 : c < 256) (w : World) : Calls Tryd.prog 57 #[.string s, .int .u8 c] w fun e w' => e = .returned (.int .i64 (-1)) ∧ w' = w := by
  refine (ix1 s c w).mono fun e w' h => ⟨?_, h.2⟩
  rw [h.1, ixb_none]
  intro b hb e
  have h2 := List.all_eq_true.1 hs b hb
  rw [decide_eq_true_eq] at h2
  rw [e] at h2
  have : (c.toNat.toUInt8).toNat = c.toNat := by show (UInt8.ofNat c.toNat).toNat = _; rw [UInt8.toNat_ofNat']; omega
  omega
set_option maxRecDepth 100000 in
set_option maxHeartbeats 8000000 in
theorem idxHi (r : Int) (h : 128 ≤ r) (h2 : r ≤ 2147483647) (w : World) : Calls Tryd.prog 41 #[.string Sep, .int .i32 r] w fun e w' => e = .returned (.int .i64 (-1)) ∧ Below w.heap.size w w' := by
  by_cases he : r = 65533
  · subst he
    exact idxErr w
  · have hne : (r == 65533) = false := by simpa using he
    have hv := fun w => validR r h h2 w
    have HV := Lib.hid hv
    have HE := Lib.hid (enc_hi r h)
    clear hv he
    go_enter Tryd.func41, Tryd.ntmps41
    go_wp2_with fail
    refine (HV.out _).mono ?_
    rintro e w' ⟨rfl | rfl, rfl⟩
    · rcases HE.out with ⟨x, y, hb, hx, hy⟩ | ⟨x, y, z, hb, hx, hy, hz⟩ | ⟨x, y, z, v, hb, hx, hy, hz, hv⟩
      · have n1 : ((44 : Int) == (y.toNat : Int)) = false := by simp; omega
        have n2 : ((44 : Int) != (y.toNat : Int)) = true := by simp; omega
        go_wp2_with fail
        go_step3
        go_wp2_with fail
        go_loopg [9, 10] 0 (fun g v9 v10 wx => g = 0 ∧ v9 = .int .i64 1 ∧ v10 = .int .i64 0 ∧ w = wx)
        case atStart => exact ⟨rfl, rfl, rfl, rfl⟩
        case round =>
          obtain ⟨_, rfl, rfl, rfl⟩ := hrel
          go_wp2_with fail
          go_step3
          go_wp2_with fail
          have e1 : ∀ h, ((Sep : ByteArray)[1]'h).toNat = 44 := fun _ => rfl
          have e2 : ∀ h, ((⟨#[x, y]⟩ : ByteArray)[1]'h).toNat = y.toNat := fun _ => rfl
          go_quiet (fail)
          have hbw : Below w.heap.size w (w.drewN nq) := ⟨rfl, rfl, rfl, Nat.le_refl _, fun _ _ => rfl⟩
          have HBW := Lib.hid hbw
          clear hbw
          generalize w.drewN nq = w1 at *
          go_wp2_with fail
          go_quiet ((go_at_call 57; exact Calls.quiet_of_same (ixNo _ _ (by decide +kernel) (by omega) (by have := y.toNat_lt; omega) _)))
          go_wp2_with fail
          rw [Exit.noGoto_ret]
          dsimp only [Exit.inBlock, Exit.then]
          rw [Exit.noGoto_ret]
          dsimp only [Exit.inBlock, Exit.then]
          go_ret
          exact ⟨rfl, HBW.out.trans ⟨rfl, rfl, rfl, Nat.le_refl _, fun _ _ => rfl⟩⟩
      · have n1 : ((93 : Int) == (z.toNat : Int)) = false := by simp; omega
        have n2 : ((93 : Int) != (z.toNat : Int)) = true := by simp; omega
        go_wp2_with fail
        go_step3
        go_wp2_with fail
        go_loopg [9, 10] 0 (fun g v9 v10 wx => g = 0 ∧ v9 = .int .i64 2 ∧ v10 = .int .i64 0 ∧ w = wx)
        case atStart => exact ⟨rfl, rfl, rfl, rfl⟩
        case round =>
          obtain ⟨_, rfl, rfl, rfl⟩ := hrel
          go_wp2_with fail
          go_step3
          go_wp2_with fail
          have e1 : ∀ h, ((Sep : ByteArray)[2]'h).toNat = 93 := fun _ => rfl
          have e2 : ∀ h, ((⟨#[x, y, z]⟩ : ByteArray)[2]'h).toNat = z.toNat := fun _ => rfl
          go_quiet (fail)
          have hbw : Below w.heap.size w (w.drewN nq) := ⟨rfl, rfl, rfl, Nat.le_refl _, fun _ _ => rfl⟩
          have HBW := Lib.hid hbw
          clear hbw
          generalize w.drewN nq = w1 at *
          go_wp2_with fail
          go_quiet ((go_at_call 57; exact Calls.quiet_of_same (ixNo _ _ (by decide +kernel) (by omega) (by have := z.toNat_lt; omega) _)))
          go_wp2_with fail
          rw [Exit.noGoto_ret]
          dsimp only [Exit.inBlock, Exit.then]
          rw [Exit.noGoto_ret]
          dsimp only [Exit.inBlock, Exit.then]
          go_ret
          exact ⟨rfl, HBW.out.trans ⟨rfl, rfl, rfl, Nat.le_refl _, fun _ _ => rfl⟩⟩
      · go_wp2_with fail
        go_step3
        go_wp2_with fail
        go_loopg [9, 10] 0 (fun g v9 v10 wx => g = 0 ∧ v9 = .int .i64 3 ∧ v10 = .int .i64 0 ∧ w = wx)
        case atStart => exact ⟨rfl, rfl, rfl, rfl⟩
        case round =>
          obtain ⟨_, rfl, rfl, rfl⟩ := hrel
          go_wp2_with fail
          rw [Exit.noGoto_ret]
          dsimp only [Exit.inBlock, Exit.then]
          go_ret
          exact ⟨rfl, Below.refl _ _⟩
    · go_wp2_with fail
      go_ret
      exact ⟨rfl, Below.refl _ _⟩
end Go.Proofs.YthioplijcleioaaDoor.Tx
/- DERIVED. strings.IndexAny over any bytes, at the three letters that end a number. By an AI agent. -/
namespace Go.Proofs.YthioplijcleioaaDoor.Tx
open Go.ChangeShapes Go.WideShapes Go.ChangeAt Go.RowKit Go.Lib Go.Shelf
set_option linter.unusedVariables false
theorem useSet (n : Int) (w : World) : Calls Tryd.prog 42 #[.int .i64 n] w fun e w' => e = .returned (.bool (decide (8 < n))) ∧ w' = w := Any.strings_shouldUseASCIISet { Tryd.lays153 with } n w
theorem no_span {l : Txt} {i j : Nat} (h : NoAny l stpT i) (hs : ∀ k b, i ≤ k → k < j → l[k]? = some b → 128 ≤ b.toNat) : NoAny l stpT j := fun k b hk hb => by
  by_cases hi : k < i
  · exact h k b hi hb
  · have h2 := hs k b (by omega) hk hb
    rw [stp_in]
    unfold stp
    simp only [Bool.or_eq_false_iff, beq_eq_false_iff_ne, ne_eq]
    refine ⟨⟨?_, ?_⟩, ?_⟩ <;> (intro e; subst e; revert h2; decide)
set_option maxRecDepth 100000 in
set_option maxHeartbeats 8000000 in
theorem ixShort (l : Txt) (h8 : l.length ≤ 8) (w : World) :
    Calls Tryd.prog 31 #[.string ⟨l.toArray⟩, .string Sep] w fun e w' => e = .returned (.int .i64 (ixL l)) ∧ Below w.heap.size w w' := by
  have hz : (⟨l.toArray⟩ : ByteArray).size = l.length := by simp [ByteArray.size]
  have hu := fun w => useSet ((⟨l.toArray⟩ : ByteArray).size : Int) w
  have hd : decide ((8 : Int) < ((⟨l.toArray⟩ : ByteArray).size : Int)) = false := decide_eq_false (by rw [hz]; omega)
  rw [hd] at hu
  have hsz : (⟨l.toArray⟩ : ByteArray).size ≤ 8 := by rw [hz]; exact h8
  have HUS := Lib.hid hu; have HZ := Lib.hid hz
  clear hu hd hz h8
  go_enter Tryd.func31, Tryd.ntmps31
  go_wp2_with fail
  refine (HUS.out _).mono ?_
  rintro e w' ⟨rfl, hw⟩
  subst hw
  go_wp2_with fail
  have hb0 : Below w'.heap.size w' (w'.iter ⟨l.toArray⟩ 0) := (Below.refl _ _).alloc (Nat.le_refl _) _
  have hit0 := World.iter_heap w' ⟨l.toArray⟩ 0
  have H0 := Lib.hid (And.intro hit0 (And.intro hb0 (NoAny.zero l stpT)))
  clear hb0 hit0 HUS
  generalize w'.iter ⟨l.toArray⟩ 0 = wi0 at *
  generalize hk0 : w'.heap.size = k0 at *
  have HK0 := Lib.hid hk0
  clear hk0
  go_loopg [9, 10] l.length (fun g _ _ wx => ∃ i : Nat, i ≤ l.length ∧ g = l.length - i ∧ Hid (wx.heap[k0]? = some (.stringIter ⟨l.toArray⟩ i) ∧ Below k0 w' wx ∧ NoAny l stpT i))
  case atStart => exact ⟨0, by omega, by omega, H0⟩
  case round =>
    obtain ⟨i, hi, rfl, HH⟩ := hrel
    clear H0
    by_cases hlt : i < l.length
    · obtain ⟨x, hx⟩ : ∃ x, l[i]? = some x := ⟨_, List.getElem?_eq_getElem hlt⟩
      have hsi : i < (⟨l.toArray⟩ : ByteArray).size := by rw [HZ.out]; exact hlt
      have hbyte : ((⟨l.toArray⟩ : ByteArray)[i]'hsi) = x := by
        show l.toArray[i]'_ = x
        simpa using (List.getElem?_eq_some_iff.1 hx).2
      by_cases h128 : x.toNat < 128
      · have hnx : ∀ ty, (Instr.next (.pointer (some ⟨k0, 0, none⟩)) true ty).run Tryd.prog wr = .ok (.tuple #[.bool true, .int .i64 i, .int .i32 (x.toNat : Int)]) (wr.iterAt k0 ⟨l.toArray⟩ (i + 1)) := fun ty => by
          have h := run_next_ascii_at (P := Tryd.prog) wr k0 ⟨l.toArray⟩ i ty HH.out.1 hsi (by rw [hbyte]; exact h128)
          rw [hbyte] at h
          exact h
        have hit2 := iterAt_heap wr k0 ⟨l.toArray⟩ i (i + 1) HH.out.1
        have hbw2 := below_iterAt HH.out.2.1 (k := k0) (Nat.le_refl _) ⟨l.toArray⟩ (i + 1)
        generalize wr.iterAt k0 ⟨l.toArray⟩ (i + 1) = wi at *
        have hback : ((x.toNat : Int)).toNat.toUInt8 = x := by simp
        have hir := fun w => Tryd.strings_IndexRune_ascii Sep (x.toNat : Int) w (by omega) (by omega)
        have hcon := Lib.contains_iff_indexByte stpT x
        have hsep : (Sep : ByteArray).data.toList = stpT := rfl
        rw [hback, hsep] at hir
        have HX := Lib.hid hx; have HIT := Lib.hid hit2; have HBW := Lib.hid hbw2
        have hge := Lib.indexByte_ge stpT x
        cases hin : stpT.contains x with
        | false =>
          rw [hin] at hcon
          have hlt0 : ¬ ((0 : Int) ≤ Lib.indexByte stpT x) := of_decide_eq_false hcon.symm
          have hneg : Lib.indexByte stpT x < 0 := by omega
          generalize Lib.indexByte stpT x = q at *
          have HIR := Lib.hid hir; have HIN := Lib.hid hin
          clear hir hcon hx hit2 hbw2 hbyte hback hsep hlt0 hin hge
          go_wp2_with fail
          refine (HIR.out _).mono ?_
          rintro e w5 ⟨rfl, rfl⟩
          go_wp2_with fail
          go_roundg (l.length - (i + 1))
          case measure => omega
          case rel => exact ⟨i + 1, by omega, by omega, Lib.hid ⟨HIT.out, HBW.out, NoAny.succ HH.out.2.2 HX.out HIN.out⟩⟩
        | true =>
          rw [hin] at hcon
          have hge0 : (0 : Int) ≤ Lib.indexByte stpT x := of_decide_eq_true hcon.symm
          generalize Lib.indexByte stpT x = q at *
          have HIR := Lib.hid hir; have HIN := Lib.hid hin
          clear hir hcon hx hit2 hbw2 hbyte hback hsep hin hge
          go_wp2_with fail
          refine (HIR.out _).mono ?_
          rintro e w5 ⟨rfl, rfl⟩
          go_wp2_with fail
          go_ret
          refine ⟨?_, by rw [HK0.out]; exact HBW.out⟩
          rw [show ixL l = (i : Int) from indexAny_hit HH.out.2.2 HX.out HIN.out]
          rfl
      · have hg : (⟨l.toArray⟩ : ByteArray).get! i = x := by
          have h := get_at ⟨l.toArray⟩ i hsi
          rw [Nat.add_zero] at h
          rw [h, hbyte]
        obtain ⟨s1, s2, s3⟩ := dec_span ⟨l.toArray⟩ i hsi (by rw [hg]; omega)
        obtain ⟨r1, _⟩ := decode_high ⟨l.toArray⟩ i hsi (by rw [hbyte]; omega)
        have r2 := decode_le ⟨l.toArray⟩ i
        have hspan : NoAny l stpT (i + (Utf8.decode ⟨l.toArray⟩ i).2) := no_span HH.out.2.2 fun k b hk1 hk2 hb => by
          have hkl : k < l.length := (List.getElem?_eq_some_iff.1 hb).1
          have h := s3 k hk1 hk2
          have hgk := get_at ⟨l.toArray⟩ k (by rw [HZ.out]; exact hkl)
          rw [Nat.add_zero] at hgk
          rw [hgk] at h
          have he : ((⟨l.toArray⟩ : ByteArray)[k]'(by rw [HZ.out]; exact hkl)) = b := by
            show l.toArray[k]'_ = b
            simpa using (List.getElem?_eq_some_iff.1 hb).2
          rw [he] at h
          exact h
        have hnx : ∀ ty, (Instr.next (.pointer (some ⟨k0, 0, none⟩)) true ty).run Tryd.prog wr = .ok (.tuple #[.bool true, .int .i64 i, .int .i32 ((Utf8.decode ⟨l.toArray⟩ i).1 : Nat)]) (wr.iterAt k0 ⟨l.toArray⟩ (i + (Utf8.decode ⟨l.toArray⟩ i).2)) := fun ty => run_next_any_at (P := Tryd.prog) wr k0 ⟨l.toArray⟩ i ty HH.out.1 hsi
        have hit2 := iterAt_heap wr k0 ⟨l.toArray⟩ i (i + (Utf8.decode ⟨l.toArray⟩ i).2) HH.out.1
        have hbw2 := below_iterAt HH.out.2.1 (k := k0) (Nat.le_refl _) ⟨l.toArray⟩ (i + (Utf8.decode ⟨l.toArray⟩ i).2)
        rw [HZ.out] at s2
        have hlt9 : k0 < (wr.iterAt k0 ⟨l.toArray⟩ (i + (Utf8.decode ⟨l.toArray⟩ i).2)).heap.size := (Array.getElem?_eq_some_iff.1 hit2).1
        generalize wr.iterAt k0 ⟨l.toArray⟩ (i + (Utf8.decode ⟨l.toArray⟩ i).2) = wi at *
        generalize (Utf8.decode ⟨l.toArray⟩ i).2 = wd at *
        generalize (Utf8.decode ⟨l.toArray⟩ i).1 = rn at *
        have hir := fun w => idxHi (rn : Int) (by omega) (by omega) w
        have HIT := Lib.hid hit2; have HBW := Lib.hid hbw2; have HIR := Lib.hid hir; have HSP := Lib.hid hspan
        have HLT9 := Lib.hid hlt9
        clear hir hit2 hbw2 hspan hbyte hx s3 hg r1 r2 hlt9
        go_wp2_with fail
        refine (HIR.out _).mono ?_
        rintro e w5 ⟨rfl, hb5⟩
        have h5 : w5.heap[k0]? = some (.stringIter ⟨l.toArray⟩ (i + wd)) := (hb5.block k0 HLT9.out).trans HIT.out
        have HB5 := Lib.hid (HBW.out.trans (hb5.mono (Nat.le_of_lt HLT9.out)))
        have H5 := Lib.hid h5
        clear hb5 h5
        go_wp2_with fail
        go_roundg (l.length - (i + wd))
        case measure => omega
        case rel => exact ⟨i + wd, by omega, by omega, Lib.hid ⟨H5.out, HB5.out, HSP.out⟩⟩
    · obtain rfl : i = l.length := by omega
      have hnx := fun ty => run_next_end_at (P := Tryd.prog) wr k0 ⟨l.toArray⟩ l.length ty HH.out.1 (by rw [HZ.out]; omega)
      go_wp2_with fail
      go_ret
      refine ⟨?_, by rw [HK0.out]; exact HH.out.2.1⟩
      rw [show ixL l = -1 from indexAny_none HH.out.2.2]
      rfl
/-- IndexAny answers so at each end of any text. -/
theorem ix_any (l : Txt) (hl : l.length ≤ 1000000) : IxOK l := fun j W => by
  by_cases h8 : (l.drop j).length ≤ 8
  · exact ixShort (l.drop j) h8 W
  · have hz : (⟨(l.drop j).toArray⟩ : ByteArray).size = (l.drop j).length := by simp [ByteArray.size]
    refine (Tryd.strings_IndexAny_long (fun w => by kernel_rfl) ⟨(l.drop j).toArray⟩ Sep W (by decide) (by rw [hz]; omega) (by rw [hz, List.length_drop]; omega) (by decide) (asciiB [32, 44, 93] (by decide))).mono ?_
    rintro e w' ⟨rfl, rfl⟩
    exact ⟨rfl, ((Below.refl _ _).alloc (Nat.le_refl _) _).alloc (by simp) _⟩
end Go.Proofs.YthioplijcleioaaDoor.Tx
