/- DERIVED. ShRt in one text. By an AI agent. -/
import Derived.Test.YtokfmclbninkmaaGreatDoorZ12
import Derived.Test.YtokfmclbninkmaaGreatDoorZ11
import Derived.Lib.QuietBelow
/- DERIVED. The reference's texts of expressions. By an AI agent. -/
namespace Go.Proofs.YtokfmclbninkmaaGreatDoor.Rt
open Go Go.ChangeShapes Go.WideShapes Go.ChangeAt Go.RowKit Lx Args Pa Sh Wr
set_option linter.unusedVariables false
set_option linter.unusedSimpArgs false
/-- The reference's expr, of trees smaller than m. -/
def ExR (m : Nat) : Prop := ∀ (z : Tz), SizeOf.sizeOf z < m → okz z → (exT dec z).length ≤ 1099511627776 → ∀ (w : World) (k a : Int) (s : Bs) (n : Nat) (A : Option Addr) (la cA : Nat) (B : Option Addr) (lb cB : Nat), TIz w z (nzC k a s n A la cA B lb cB) →
  Calls Tryz.prog 24 #[nzA k a s n A la cA B lb cB] w fun e w' => e = .returned (str (exT dec z)) ∧ Below w.heap.size w w'
set_option maxRecDepth 100000 in
set_option maxHeartbeats 4000000 in
theorem listR {m : Nat} (H : ExR m) (l : List Tz) (hm : ∀ (i : Nat) (x : Tz), l[i]? = some x → SizeOf.sizeOf x < m) (hok : okzs l) (bt : ByteArray) (op : Bool) (A : Option Addr) (c : Nat) (css : List (List Value)) (w : World) (hL : Lies w A css.flatten) (hS : TsIz w l css) (hl : l.length ≤ maxLen)
    (hbt : bt.size ≤ 1099511627776) (hB : (liT dec bt.data.toList op true l).length ≤ 1099511627776) :
    Calls Tryz.prog 39 #[.slice A l.length c, .string bt, .bool op] w fun e w' => e = .returned (str (liT dec bt.data.toList op true l)) ∧ Below w.heap.size w w' := by
  have hlm : l.length ≤ 9223372036854775807 := hl
  have hbtd := size_data bt
  obtain ⟨tot, htot⟩ : ∃ tot, liT dec bt.data.toList op true l = tot := ⟨_, rfl⟩
  rw [htot] at hB ⊢
  have HL := Lib.hid hL; have HS := Lib.hid hS; have HT := Lib.hid htot; have HB := Lib.hid hB; have HM := Lib.hid hm; have HOK := Lib.hid hok; have HBT := Lib.hid hbtd; have HBL := Lib.hid hbt
  clear hL hS hl htot hB hm hok hbtd hbt
  go_enter Tryz.func39, Tryz.ntmps39
  go_wp2_with fail
  go_loopw [7, 8] (fun vs vi wr => ∃ (i : Nat) (S : ByteArray), i ≤ l.length ∧ vs = .string S ∧ vi = .int .i64 (i : Int) ∧ Hid (Below w.heap.size w wr) ∧ Hid (S.data.toList ++ liT dec bt.data.toList op (decide (i = 0)) (l.drop i) = tot)) (fun _ vi _ => l.length - (intOf vi).toNat)
  case atStart => exact ⟨0, ⟨#[]⟩, by omega, rfl, rfl, Lib.hid (Below.refl _ _), Lib.hid (by simpa using HT.out)⟩
  case round =>
    obtain ⟨i, S, hi, rfl, rfl, HH, HQ⟩ := hrel
    by_cases hlt : i < l.length
    · obtain ⟨x, hx⟩ : ∃ x, l[i]? = some x := ⟨_, List.getElem?_eq_getElem hlt⟩
      obtain ⟨b, o, k3, a3, s3, n3, A3, la3, cA3, B3, lb3, cB3, rfl, hTx, hb3, e0, e1, e2, e3, e4, e5⟩ := partz_at (HL.out.below HH.out) (TsIz.below HH.out HS.out) hx
      have hq := HQ.out
      rw [drop_at hx, liT_cons] at hq
      have hlen := congrArg List.length hq
      simp only [List.length_append] at hlen
      have hBB := HB.out
      have hss := size_data S
      have hbb := HBT.out
      have hbl := HBL.out
      have HI1 := Lib.hid (show decide (i + 1 = 0) = false from decide_eq_false (by omega))
      have hkz : kz x = k3 := by
        cases x
        obtain ⟨rfl, _⟩ := tIz_parts hTx
        rfl
      -- what is ahead of the part
      obtain ⟨Sa, hSa, hsa⟩ : ∃ Sa : ByteArray, Sa = (if i = 0 then S else S ++ bt) ∧ Sa.data.toList ++ (opT dec op x ++ liT dec bt.data.toList op false (l.drop (i + 1))) = tot := by
        by_cases hi0 : i = 0
        · refine ⟨S, by rw [if_pos hi0], ?_⟩
          rw [decide_eq_true hi0] at hq
          simpa using hq
        · refine ⟨S ++ bt, by rw [if_neg hi0], ?_⟩
          rw [decide_eq_false hi0] at hq
          rw [ByteArray.data_append]
          simpa using hq
      have hlen2 := congrArg List.length hsa
      simp only [List.length_append] at hlen2
      have hsad := size_data Sa
      have hex : (exT dec x).length ≤ (opT dec op x).length := by
        rw [opT_eq]
        split
        · simp only [List.length_append]; omega
        · exact Nat.le_refl _
      have hexb : (exT dec x).length ≤ 1099511627776 := by omega
      have HC := Lib.hid (H x (HM.out i x hx) (okzs_at HOK.out hx) hexb wr k3 a3 s3 n3 A3 la3 cA3 B3 lb3 cB3 hTx)
      rw [opT_eq, hkz] at hsa hlen2
      have hq0 : ¬ (9223372036854775807 < S.size + bt.size) := by
        by_cases hi0 : i = 0
        · have : S.size ≤ 1099511627776 := by rw [if_pos hi0] at hSa; rw [hSa] at hsad; omega
          omega
        · have : Sa.size = S.size + bt.size := by rw [hSa, if_neg hi0, ByteArray.size_append]
          omega
      have hSaB : Sa.size ≤ 1099511627776 := by omega
      have HQ2 := Lib.hid hsa; have HSA := Lib.hid hSa; have HSB := Lib.hid hSaB; have HEX := Lib.hid hexb; have HLN := Lib.hid hlen2; have HSD := Lib.hid hsad
      generalize exT dec x = tx at *
      have hplain : ∀ hb : (op && !(decide (k3 = 0) || decide (k3 = 1) || decide (k3 = 5))) = false, Sa.data.toList ++ (tx ++ liT dec bt.data.toList op false (l.drop (i + 1))) = tot := fun hb => by
        have := HQ2.out
        rw [hb] at this
        simpa using this
      have hpar : ∀ hb : (op && !(decide (k3 = 0) || decide (k3 = 1) || decide (k3 = 5))) = true, Sa.data.toList ++ ([40] ++ tx ++ [41] ++ liT dec bt.data.toList op false (l.drop (i + 1))) = tot := fun hb => by
        have := HQ2.out
        rw [hb] at this
        simpa using this
      have HPL := Lib.hid hplain; have HPR := Lib.hid hpar
      clear hq hlen hlen2 hsa hSa hsad hss hbb hbl hBB hex hexb hkz hTx hx HQ hplain hpar HLN
      -- the ways
      obtain ⟨pb, hpb⟩ : ∃ pb : Bool, (op && !(decide (k3 = 0) || decide (k3 = 1) || decide (k3 = 5))) = pb := ⟨_, rfl⟩
      have hcase : (op = false ∧ pb = false) ∨ (op = true ∧ k3 = 0 ∧ pb = false) ∨ (op = true ∧ k3 = 1 ∧ pb = false) ∨ (op = true ∧ k3 = 5 ∧ pb = false) ∨ (op = true ∧ k3 ≠ 0 ∧ k3 ≠ 1 ∧ k3 ≠ 5 ∧ pb = true) := by
        rw [← hpb]
        cases op
        · exact .inl ⟨rfl, rfl⟩
        · by_cases h0 : k3 = 0
          · exact .inr (.inl ⟨rfl, h0, by simp [h0]⟩)
          · by_cases h1 : k3 = 1
            · exact .inr (.inr (.inl ⟨rfl, h1, by simp [h1]⟩))
            · by_cases h5 : k3 = 5
              · exact .inr (.inr (.inr (.inl ⟨rfl, h5, by simp [h5]⟩)))
              · exact .inr (.inr (.inr (.inr ⟨rfl, h0, h1, h5, by simp [h0, h1, h5]⟩)))
      have HPB := Lib.hid hpb
      clear hpb
      by_cases hi0 : i = 0
      · have i1 : decide (0 < i) = false := by simp; omega
        have hsz : S.size ≤ 1099511627776 := by have := HSB.out; rw [HSA.out, if_pos hi0] at this; exact this
        have HSE := Lib.hid (show Sa = S by rw [HSA.out, if_pos hi0])
        have hexl := HEX.out
        clear hi0
        rcases hcase with ⟨rfl, rfl⟩ | ⟨rfl, rfl, rfl⟩ | ⟨rfl, rfl, rfl⟩ | ⟨rfl, rfl, rfl⟩ | ⟨rfl, k0, k1, k5, rfl⟩
        · skip
          have HR := Lib.hid (HPL.out HPB.out)
          have q1 : ¬ (9223372036854775807 < S.size + tx.length) := by omega
          clear HPL HPR HPB HQ2 HSA HSB HSD hexl
          go_wp2_with fail
          refine HC.out.mono ?_
          rintro e w2 ⟨rfl, hb2⟩
          have HB2 := Lib.hid (HH.out.trans (hb2.mono HH.out.size))
          clear hb2
          go_wp2_with fail
          go_roundw
          case rel => exact ⟨i + 1, S ++ ⟨tx.toArray⟩, by omega, rfl, by go_num, HB2, Lib.hid (by have := HR.out; rw [HSE.out] at this; rw [HI1.out]; simp only [ByteArray.data_append, Array.toList_append] at this ⊢; simpa using this)⟩
          case measure => simp [intOf]; omega
        · skip
          have HR := Lib.hid (HPL.out HPB.out)
          have q1 : ¬ (9223372036854775807 < S.size + tx.length) := by omega
          clear HPL HPR HPB HQ2 HSA HSB HSD hexl
          go_wp2_with fail
          refine HC.out.mono ?_
          rintro e w2 ⟨rfl, hb2⟩
          have HB2 := Lib.hid (HH.out.trans (hb2.mono HH.out.size))
          clear hb2
          go_wp2_with fail
          go_roundw
          case rel => exact ⟨i + 1, S ++ ⟨tx.toArray⟩, by omega, rfl, by go_num, HB2, Lib.hid (by have := HR.out; rw [HSE.out] at this; rw [HI1.out]; simp only [ByteArray.data_append, Array.toList_append] at this ⊢; simpa using this)⟩
          case measure => simp [intOf]; omega
        · skip
          have HR := Lib.hid (HPL.out HPB.out)
          have q1 : ¬ (9223372036854775807 < S.size + tx.length) := by omega
          clear HPL HPR HPB HQ2 HSA HSB HSD hexl
          go_wp2_with fail
          refine HC.out.mono ?_
          rintro e w2 ⟨rfl, hb2⟩
          have HB2 := Lib.hid (HH.out.trans (hb2.mono HH.out.size))
          clear hb2
          go_wp2_with fail
          go_roundw
          case rel => exact ⟨i + 1, S ++ ⟨tx.toArray⟩, by omega, rfl, by go_num, HB2, Lib.hid (by have := HR.out; rw [HSE.out] at this; rw [HI1.out]; simp only [ByteArray.data_append, Array.toList_append] at this ⊢; simpa using this)⟩
          case measure => simp [intOf]; omega
        · skip
          have HR := Lib.hid (HPL.out HPB.out)
          have q1 : ¬ (9223372036854775807 < S.size + tx.length) := by omega
          clear HPL HPR HPB HQ2 HSA HSB HSD hexl
          go_wp2_with fail
          refine HC.out.mono ?_
          rintro e w2 ⟨rfl, hb2⟩
          have HB2 := Lib.hid (HH.out.trans (hb2.mono HH.out.size))
          clear hb2
          go_wp2_with fail
          go_roundw
          case rel => exact ⟨i + 1, S ++ ⟨tx.toArray⟩, by omega, rfl, by go_num, HB2, Lib.hid (by have := HR.out; rw [HSE.out] at this; rw [HI1.out]; simp only [ByteArray.data_append, Array.toList_append] at this ⊢; simpa using this)⟩
          case measure => simp [intOf]; omega
        · have y0 : (k3 == 0) = false := by simpa using k0
          have y1 : (k3 == 1) = false := by simpa using k1
          have y5 : (k3 == 5) = false := by simpa using k5
          have v0 : (k3 != 0) = true := by simpa using k0
          have v1 : (k3 != 1) = true := by simpa using k1
          have v5 : (k3 != 5) = true := by simpa using k5
          clear k0 k1 k5
          have HR := Lib.hid (HPR.out HPB.out)
          have hz1 : (S ++ ⟨#[40]⟩).size = S.size + 1 := by rw [ByteArray.size_append]; rfl
          have hz2 : (S ++ ⟨#[40]⟩ ++ ⟨tx.toArray⟩).size = S.size + 1 + tx.length := by rw [ByteArray.size_append, hz1, size_str tx]
          have q1 : ¬ (9223372036854775807 < S.size + 1) := by omega
          have q2 : ¬ (9223372036854775807 < S.size + 1 + tx.length) := by omega
          have q3 : ¬ (9223372036854775807 < S.size + 1 + tx.length + 1) := by omega
          clear HPL HPR HPB HQ2 HSA HSB HSD hexl
          go_wp2_with fail
          refine HC.out.mono ?_
          rintro e w2 ⟨rfl, hb2⟩
          have HB2 := Lib.hid (HH.out.trans (hb2.mono HH.out.size))
          clear hb2
          go_wp2_with fail
          go_roundw
          case rel => exact ⟨i + 1, S ++ ⟨#[40]⟩ ++ ⟨tx.toArray⟩ ++ ⟨#[41]⟩, by omega, rfl, by go_num, HB2, Lib.hid (by have := HR.out; rw [HSE.out] at this; rw [HI1.out]; simp only [ByteArray.data_append, Array.toList_append] at this ⊢; simpa using this)⟩
          case measure => simp [intOf]; omega
      · have i1 : decide (0 < i) = true := by simp; omega
        have hsz : S.size + bt.size ≤ 1099511627776 := by have := HSB.out; rw [HSA.out, if_neg hi0, ByteArray.size_append] at this; exact this
        have hz0 : (S ++ bt).size = S.size + bt.size := ByteArray.size_append
        have HSE := Lib.hid (show Sa = S ++ bt by rw [HSA.out, if_neg hi0])
        have hexl := HEX.out
        clear hi0
        rcases hcase with ⟨rfl, rfl⟩ | ⟨rfl, rfl, rfl⟩ | ⟨rfl, rfl, rfl⟩ | ⟨rfl, rfl, rfl⟩ | ⟨rfl, k0, k1, k5, rfl⟩
        · skip
          have HR := Lib.hid (HPL.out HPB.out)
          have q1 : ¬ (9223372036854775807 < S.size + bt.size + tx.length) := by omega
          clear HPL HPR HPB HQ2 HSA HSB HSD hexl
          go_wp2_with fail
          refine HC.out.mono ?_
          rintro e w2 ⟨rfl, hb2⟩
          have HB2 := Lib.hid (HH.out.trans (hb2.mono HH.out.size))
          clear hb2
          go_wp2_with fail
          go_roundw
          case rel => exact ⟨i + 1, S ++ bt ++ ⟨tx.toArray⟩, by omega, rfl, by go_num, HB2, Lib.hid (by have := HR.out; rw [HSE.out] at this; rw [HI1.out]; simp only [ByteArray.data_append, Array.toList_append] at this ⊢; simpa using this)⟩
          case measure => simp [intOf]; omega
        · skip
          have HR := Lib.hid (HPL.out HPB.out)
          have q1 : ¬ (9223372036854775807 < S.size + bt.size + tx.length) := by omega
          clear HPL HPR HPB HQ2 HSA HSB HSD hexl
          go_wp2_with fail
          refine HC.out.mono ?_
          rintro e w2 ⟨rfl, hb2⟩
          have HB2 := Lib.hid (HH.out.trans (hb2.mono HH.out.size))
          clear hb2
          go_wp2_with fail
          go_roundw
          case rel => exact ⟨i + 1, S ++ bt ++ ⟨tx.toArray⟩, by omega, rfl, by go_num, HB2, Lib.hid (by have := HR.out; rw [HSE.out] at this; rw [HI1.out]; simp only [ByteArray.data_append, Array.toList_append] at this ⊢; simpa using this)⟩
          case measure => simp [intOf]; omega
        · skip
          have HR := Lib.hid (HPL.out HPB.out)
          have q1 : ¬ (9223372036854775807 < S.size + bt.size + tx.length) := by omega
          clear HPL HPR HPB HQ2 HSA HSB HSD hexl
          go_wp2_with fail
          refine HC.out.mono ?_
          rintro e w2 ⟨rfl, hb2⟩
          have HB2 := Lib.hid (HH.out.trans (hb2.mono HH.out.size))
          clear hb2
          go_wp2_with fail
          go_roundw
          case rel => exact ⟨i + 1, S ++ bt ++ ⟨tx.toArray⟩, by omega, rfl, by go_num, HB2, Lib.hid (by have := HR.out; rw [HSE.out] at this; rw [HI1.out]; simp only [ByteArray.data_append, Array.toList_append] at this ⊢; simpa using this)⟩
          case measure => simp [intOf]; omega
        · skip
          have HR := Lib.hid (HPL.out HPB.out)
          have q1 : ¬ (9223372036854775807 < S.size + bt.size + tx.length) := by omega
          clear HPL HPR HPB HQ2 HSA HSB HSD hexl
          go_wp2_with fail
          refine HC.out.mono ?_
          rintro e w2 ⟨rfl, hb2⟩
          have HB2 := Lib.hid (HH.out.trans (hb2.mono HH.out.size))
          clear hb2
          go_wp2_with fail
          go_roundw
          case rel => exact ⟨i + 1, S ++ bt ++ ⟨tx.toArray⟩, by omega, rfl, by go_num, HB2, Lib.hid (by have := HR.out; rw [HSE.out] at this; rw [HI1.out]; simp only [ByteArray.data_append, Array.toList_append] at this ⊢; simpa using this)⟩
          case measure => simp [intOf]; omega
        · have y0 : (k3 == 0) = false := by simpa using k0
          have y1 : (k3 == 1) = false := by simpa using k1
          have y5 : (k3 == 5) = false := by simpa using k5
          have v0 : (k3 != 0) = true := by simpa using k0
          have v1 : (k3 != 1) = true := by simpa using k1
          have v5 : (k3 != 5) = true := by simpa using k5
          clear k0 k1 k5
          have HR := Lib.hid (HPR.out HPB.out)
          have hz1 : (S ++ bt ++ ⟨#[40]⟩).size = S.size + bt.size + 1 := by rw [ByteArray.size_append, ByteArray.size_append]; rfl
          have hz2 : (S ++ bt ++ ⟨#[40]⟩ ++ ⟨tx.toArray⟩).size = S.size + bt.size + 1 + tx.length := by rw [ByteArray.size_append, hz1, size_str tx]
          have q1 : ¬ (9223372036854775807 < S.size + bt.size + 1) := by omega
          have q2 : ¬ (9223372036854775807 < S.size + bt.size + 1 + tx.length) := by omega
          have q3 : ¬ (9223372036854775807 < S.size + bt.size + 1 + tx.length + 1) := by omega
          clear HPL HPR HPB HQ2 HSA HSB HSD hexl
          go_wp2_with fail
          refine HC.out.mono ?_
          rintro e w2 ⟨rfl, hb2⟩
          have HB2 := Lib.hid (HH.out.trans (hb2.mono HH.out.size))
          clear hb2
          go_wp2_with fail
          go_roundw
          case rel => exact ⟨i + 1, S ++ bt ++ ⟨#[40]⟩ ++ ⟨tx.toArray⟩ ++ ⟨#[41]⟩, by omega, rfl, by go_num, HB2, Lib.hid (by have := HR.out; rw [HSE.out] at this; rw [HI1.out]; simp only [ByteArray.data_append, Array.toList_append] at this ⊢; simpa using this)⟩
          case measure => simp [intOf]; omega
    · obtain rfl : i = l.length := by omega
      have hq := HQ.out
      rw [List.drop_length, liT_nil, List.append_nil] at hq
      have HQ2 := Lib.hid hq
      clear hq
      go_wp2_with fail
      go_ret
      exact ⟨by rw [bs_eq HQ2.out]; rfl, HH.out⟩
theorem size_nodes {k1 a1 : Int} {n1 : Nat} {s1 : Bs} {ps : List Bs} {l : List Tz} {m : Nat} (hm : SizeOf.sizeOf (Tz.mk k1 a1 s1 n1 ps l) < m + 1) : ∀ (i : Nat) (x : Tz), l[i]? = some x → SizeOf.sizeOf x < m := fun i x hx => by
  have := size_memz (k := k1) (a := a1) (n := n1) (s := s1) (ps := ps) hx
  omega
set_option maxRecDepth 100000 in
set_option maxHeartbeats 4000000 in
theorem exr : ∀ m, ExR m
  | 0 => fun z h => absurd h (Nat.not_lt_zero _)
  | m + 1 => by
    intro z hm hok hB w k a s n A la cA B lb cB hT
    obtain ⟨k1, a1, s1, n1, ps, l⟩ := z
    obtain ⟨rfl, rfl, rfl, rfl, rfl, rfl, hl, hp, hLB, css, hL, hS⟩ := tIz_parts hT
    have hmm := size_nodes hm
    unfold okz at hok
    obtain ⟨w1, hw1⟩ : ∃ w1, w.alloc (.cells (nB k a s n A l.length cA B ps.length cB) 26) = w1 := ⟨_, rfl⟩
    have hb1 : Below w.heap.size w w1 := by rw [← hw1]; exact (Below.refl _ _).alloc (Nat.le_refl _) _
    have hX1 : Blk w1 w.heap.size 26 (nB k a s n A l.length cA B ps.length cB) := by rw [← hw1]; exact Blk.new _ _ _
    obtain ⟨⟨e0, e1, e2, e3, e4, e5⟩, z0, z1, z2, z3, z4, z5⟩ := Blk.c6 hX1
    have hxl := hX1.lt
    have hss : s.length ≤ 1048576 := hok.1
    have HLI := Lib.hid fun (bt : ByteArray) (op : Bool) (hbt : bt.size ≤ 1099511627776) (hB : (liT dec bt.data.toList op true l).length ≤ 1099511627776) (w2 : World) (hb : Below w1.heap.size w1 w2) =>
      listR (exr m) l hmm hok.2.2.2 bt op A cA css w2 (hL.below (hb1.trans (hb.mono hb1.size))) (TsIz.below (hb1.trans (hb.mono hb1.size)) hS) hl hbt hB
    have HW := Lib.hid hw1; have HB1 := Lib.hid hb1
    have hn32 : n < 4294967296 := hok.2.2.1
    rw [exT_mk] at hB ⊢
    clear hT hLB hL hS hp hm hmm hok hw1 hb1 hX1
    by_cases h0 : k = 0
    · subst h0
      simp only [if_true] at hB ⊢
      have HN := Lib.hid fun W => num_nat n n W (Nat.le_refl _) hn32
      clear hB
      go_enter Tryz.func24, Tryz.ntmps24
      go_wp2_with fail
      rw [HW.out]
      refine (HN.out _).mono ?_
      rintro e w' ⟨rfl, rfl⟩
      go_wp2_with fail
      go_ret
      exact ⟨rfl, HB1.out⟩
    rw [if_neg h0] at hB ⊢
    by_cases h1 : k = 1
    · subst h1
      simp only [if_true] at hB ⊢
      clear hB h0
      go_enter Tryz.func24, Tryz.ntmps24
      go_wp2_with fail
      rw [HW.out]
      go_ret
      exact ⟨rfl, HB1.out⟩
    rw [if_neg h1] at hB ⊢
    have r1 := fun d os => cell_regrown e1 d os
    have r4 := fun d os => cell_regrown e4 d os
    by_cases h2 : k = 2
    · subst h2
      simp only [if_true] at hB ⊢
      rw [List.length_append] at hB
      have HC := Lib.hid (HLI.out ⟨#[]⟩ true (by decide) (by show (liT dec [] true true l).length ≤ _; omega))
      have HC2 := Lib.hid (show ∀ (w2 : World), Below w1.heap.size w1 w2 → Calls Tryz.prog 39 #[.slice A l.length cA, .string ⟨#[]⟩, .bool true] w2 fun e w' => e = .returned (str (liT dec [] true true l)) ∧ Below w2.heap.size w2 w' from HC.out)
      generalize liT dec [] true true l = tx at *
      clear HC HLI h0 h1
      go_enter Tryz.func24, Tryz.ntmps24
      go_wp2_with fail
      rw [HW.out]
      refine wp_region_quiet_below (by kernel_rfl) (by kernel_rfl) ?_
      repeat (go_big_quiet_step ((go_at_call 39; exact Calls.regrown_of (HC2.out _ (below_regrown _ _ _)))))
      refine wpQuiet_nil ?_
      intro _ hw'
      obtain ⟨⟨dq, osq⟩, hw''⟩ := hw'
      subst hw''
      have HB2 := Lib.hid (HB1.out.trans ((below_regrown w1 dq osq).mono HB1.out.size))
      go_wp2_with fail
      go_ret
      exact ⟨congrArg (fun x => Ending.returned (.string x)) (str_app _ _), HB2.out⟩
    rw [if_neg h2] at hB ⊢
    by_cases h5 : k = 5
    · subst h5
      simp only [if_true] at hB ⊢
      simp only [List.length_append, List.length_cons, List.length_nil] at hB
      have HC := Lib.hid (HLI.out ⟨#[44, 32]⟩ false (by decide) (by show (liT dec [44, 32] false true l).length ≤ _; omega))
      have HC2 := Lib.hid (show ∀ (w2 : World), Below w1.heap.size w1 w2 → Calls Tryz.prog 39 #[.slice A l.length cA, .string ⟨#[44, 32]⟩, .bool false] w2 fun e w' => e = .returned (str (liT dec [44, 32] false true l)) ∧ Below w2.heap.size w2 w' from HC.out)
      generalize liT dec [44, 32] false true l = tx at *
      have hz1 : ((⟨s.toArray⟩ : ByteArray) ++ ⟨#[40]⟩).size = s.length + 1 := by rw [ByteArray.size_append, size_str s]; rfl
      have hz2 : ((⟨s.toArray⟩ : ByteArray) ++ ⟨#[40]⟩ ++ ⟨tx.toArray⟩).size = s.length + 1 + tx.length := by rw [ByteArray.size_append, hz1, size_str tx]
      have q1 : ¬ (9223372036854775807 < s.length + 1) := by omega
      have q2 : ¬ (9223372036854775807 < s.length + 1 + tx.length) := by omega
      have q3 : ¬ (9223372036854775807 < s.length + 1 + tx.length + 1) := by omega
      clear HC HLI h0 h1 h2
      go_enter Tryz.func24, Tryz.ntmps24
      go_wp2_with fail
      rw [HW.out]
      refine wp_region_quiet_below (by kernel_rfl) (by kernel_rfl) ?_
      repeat (go_big_quiet_step ((go_at_call 39; exact Calls.regrown_of (HC2.out _ (below_regrown _ _ _)))))
      refine wpQuiet_nil ?_
      intro _ hw'
      obtain ⟨⟨dq, osq⟩, hw''⟩ := hw'
      subst hw''
      have HB2 := Lib.hid (HB1.out.trans ((below_regrown w1 dq osq).mono HB1.out.size))
      go_wp2_with fail
      go_ret
      exact ⟨congrArg (fun x => Ending.returned (.string x)) (bs_eq (by simp only [ByteArray.data_append, Array.toList_append])), HB2.out⟩
    rw [if_neg h5] at hB ⊢
    have hbt : (⟨#[32]⟩ ++ ⟨s.toArray⟩ ++ ⟨#[32]⟩ : ByteArray).data.toList = [32] ++ s ++ [32] := by simp only [ByteArray.data_append, Array.toList_append]
    have hz1 : ((⟨#[32]⟩ : ByteArray) ++ ⟨s.toArray⟩).size = 1 + s.length := by rw [ByteArray.size_append, size_str s]; rfl
    have hz2 : ((⟨#[32]⟩ : ByteArray) ++ ⟨s.toArray⟩ ++ ⟨#[32]⟩).size = 1 + s.length + 1 := by rw [ByteArray.size_append, hz1]; rfl
    have q1 : ¬ (9223372036854775807 < 1 + s.length) := by omega
    have q2 : ¬ (9223372036854775807 < 1 + s.length + 1) := by omega
    have HC := Lib.hid (HLI.out (⟨#[32]⟩ ++ ⟨s.toArray⟩ ++ ⟨#[32]⟩) true (by rw [hz2]; omega) (by rw [hbt]; exact hB) w1 (Below.refl _ _))
    rw [hbt] at HC
    have y0 : (k == 0) = false := by simpa using h0
    have y1 : (k == 1) = false := by simpa using h1
    have y2 : (k == 2) = false := by simpa using h2
    have y5 : (k == 5) = false := by simpa using h5
    generalize liT dec ([32] ++ s ++ [32]) true true l = tx at *
    clear HLI h0 h1 h2 h5 r1 r4 hbt
    go_enter Tryz.func24, Tryz.ntmps24
    go_wp2_with fail
    rw [HW.out]
    refine HC.out.mono ?_
    rintro e w2 ⟨rfl, hb2⟩
    have HB2 := Lib.hid (HB1.out.trans (hb2.mono HB1.out.size))
    clear hb2
    go_wp2_with fail
    go_ret
    exact ⟨rfl, HB2.out⟩
end Go.Proofs.YtokfmclbninkmaaGreatDoor.Rt
