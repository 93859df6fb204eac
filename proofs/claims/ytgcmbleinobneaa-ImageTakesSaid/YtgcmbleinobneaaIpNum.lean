/- DERIVED. Contracts of the program's appendNumber, appendCells. By an AI agent. -/
import Derived.Test.YtgcmbleinobneaaIpCan2
import Derived.Test.YtgcmbleinobneaaImPut2
namespace Go.Proofs.Ytgcmbleinobneaa.Ip
open Go.ChangeShapes Go.WideShapes Go.ChangeAt Go.RowKit Args ImRef
set_option linter.unusedVariables false
set_option maxHeartbeats 1000000 in
theorem num_r (base : Nat) (A : Option Addr) (c l : Nat) (xs : List Int) (n size : Int) (h0 : 0 ≤ n) (hn : n ≤ 9223372036854775807) (s1 : 1 ≤ size) (s4 : size ≤ 4) (w : World) (hB : base ≤ w.heap.size) (hown : RowB base w A c l xs) (hx : xs.length ≤ 100000000) :
    Calls Try.prog 20 #[.slice A l c, .int .i64 n, .int .i64 size] w fun e w' => ∃ A' c' l', e = .returned (.slice A' l' c') ∧ OwnB base w' A' c' l' (xs ++ fourT size.toNat n) ∧ Grow base w w' := by
  have HO := Lib.hid hown
  clear hown
  go_enter Try.func20, Try.ntmps20
  go_wp2_with fail
  go_loopw [0, 1, 8] (fun vb vn vi wr => ∃ (k : Nat) (m : Int) (A' : Option Addr) (c' l' : Nat), (k : Int) ≤ size ∧ vb = .slice A' l' c' ∧ vi = .int .i64 k ∧ vn = .int .i64 m ∧ 0 ≤ m ∧ m ≤ 9223372036854775807 ∧ Hid (m = n / 256 ^ k ∧ RowB base wr A' c' l' (xs ++ fourT k n) ∧ Grow base w wr ∧ (0 < k → OwnB base wr A' c' l' (xs ++ fourT k n)))) (fun _ _ vi _ => 4 - (intOf vi).toNat)
  case atStart => exact ⟨0, n, A, c, l, by omega, rfl, rfl, rfl, h0, hn, Lib.hid ⟨by simp, by simpa [fourT] using HO.out, Grow.refl _ _, fun h => absurd h (by decide)⟩⟩
  case round =>
    obtain ⟨k, m, A', c', l', hk, rfl, rfl, rfl, hm0, hm, HH⟩ := hrel
    by_cases hlt : (k : Int) < size
    · have hln : (xs ++ fourT k n).length + [m % 256].length ≤ 140737488351232 := by simp [fourT]; omega
      have HLN := Lib.hid hln
      clear hln
      go_wp2_with (at_builtin; refine app_r rfl _ _ rfl A' c' l' (xs ++ fourT k n) rfl HH.out.2.1 (Nat.le_trans hB HH.out.2.2.1.1) [m % 256] (Nat.succ_pos _) rfl HLN.out ?_; intro A2 c2 l2 w' h1 h2; have HN1 := Lib.hid h1; have HN2 := Lib.hid h2; clear h1 h2)
      go_roundw
      case rel =>
        have hf : xs ++ fourT k n ++ [m % 256] = xs ++ fourT (k + 1) n := by rw [fourT_succ, List.append_assoc, HH.out.1]
        have hd : m / 256 = n / 256 ^ (k + 1) := by rw [HH.out.1, div_next]
        exact ⟨k + 1, m / 256, A2, c2, l2, by omega, rfl, by go_num, rfl, by omega, by omega, Lib.hid ⟨hd, by rw [← hf]; exact .inl HN1.out, HH.out.2.2.1.trans HN2.out, fun _ => by rw [← hf]; exact HN1.out⟩⟩
      case measure => simp [intOf]; omega
    · have h4 : k = size.toNat := by omega
      go_wp2_with fail
      go_ret
      exact ⟨_, _, _, rfl, by rw [← h4]; exact HH.out.2.2.2 (by omega), HH.out.2.2.1⟩
theorem fourT_one (n : Int) (h0 : 0 ≤ n) (h : n < 256) : fourT (1 : Int).toNat n = [n] := by
  show fourT 1 n = [n]
  simp [fourT]; omega
theorem four4 (n : Int) : fourT (4 : Int).toNat n = fourT 4 n := rfl
theorem others_cell {w w' : World} (h : Others w w') {g : Nat} {cs : Array Value} {t : TypeId} (ht : t ≠ 5) (hg : w.heap[g]? = some (.cells cs t (0, 0))) (i : Nat) : w'.cell? ⟨g, i, none⟩ = cs[i]? := cell_of_row w' g i cs t (0, 0) (h g cs t (0, 0) ht hg)
set_option maxHeartbeats 400000 in
/-- A text's bytes are appended. -/
theorem app_s {ops : Array Oper} {rest : List Oper} {o : Oper} {a : Act} {Q : Exit → Act → World → Prop} {w : World} (hgd : o.guard = none) (s x : Operand)
    (ho : o.op = .call { callee := .builtin .append, args := #[s, x], argTypes := #[28, 9] })
    (A : Option Addr) (c l : Nat) (xs : List Int) (hs : a.eval s = .slice A l c) {base : Nat} (hown : OwnB base w A c l xs) (hB : base ≤ w.heap.size) (hl : 0 < l) (t : ByteArray)
    (hx : a.eval x = .string t) (hk : xs.length + t.size ≤ 140737488351232)
    (h : ∀ A' c' l' w', OwnB base w' A' c' l' (xs ++ sbytes t) → Grow base w w' → wpList Try.prog ops Q rest (a.put o.dst (.slice A' l' c')) w') :
    wpList Try.prog ops Q (o :: rest) a w := by
  obtain ⟨rfl, hown'⟩ := id hown
  obtain ⟨i0, hi, hz0, hz1, hz2⟩ := info_parts infoB
  refine Lib.wpList_append_own_string _ hgd s x 28 9 ho base 5 i0 Try.underlying28 Try.underlying9 hi hz0 hz1 hz2 (.slice A xs.length c) xs.length (bvals xs) hs hown' t hx (by unfold maxLen; omega) (by omega) hB ?_
  intro v' w' h1 h2 _
  obtain ⟨g, cap, e, _, _⟩ := World.ownsRow.form h1 (by omega)
  subst e
  refine h _ _ _ w' ⟨by rw [List.length_append, sbytes_len], by rw [show bvals (xs ++ sbytes t) = bvals xs ++ bvals (sbytes t) by simp [bvals], ← strCells_eq]; exact h1⟩ ⟨h2.size, fun B w0 hB' hb => ?_, others_grown h2 hown.other⟩
  exact hb.grown h2 (by omega) (fun q hq => by have := hown.block q hq; omega)
set_option maxRecDepth 100000 in
set_option maxHeartbeats 4000000 in
theorem cellsP (base : Nat) (A : Option Addr) (c l : Nat) (xs : List Int) (B : Option Addr) (cap : Nat) (cs : List TI) (w : World) (hB : base ≤ w.heap.size) (hown : OwnB base w A c l xs) (hx : xs.length ≤ 1000000)
    (hR : Lies w B (cs.flatMap TI.cells)) (hlow : ∀ b o, B = some ⟨b, o, none⟩ → 0 < cs.length → b < base) (hok : cellsB cs = true) :
    Calls Try.prog 21 #[.slice A l c, .slice B cs.length cap] w fun e w' => ∃ A' c' l', e = .returned (.slice A' l' c') ∧ OwnB base w' A' c' l' (xs ++ listL cs) ∧ Grow base w w' := by
  unfold cellsB at hok
  simp only [Bool.and_eq_true, decide_eq_true_eq] at hok
  obtain ⟨hall, h64⟩ := hok
  have HO := Lib.hid hown; have HR := Lib.hid hR; have HLOW := Lib.hid hlow; have HALL := Lib.hid hall
  have hx8 : xs.length ≤ 100000000 := by omega
  have H1 := Lib.hid (fourT_one (cs.length : Int) (by omega) (by omega))
  clear hown hR hlow hall
  go_enter Try.func21, Try.ntmps21
  go_wp2_with fail
  refine (num_r base A c l xs (cs.length : Int) 1 (by omega) (by omega) (by decide) (by decide) _ hB (.inl HO.out) hx8).mono ?_
  rintro e w1 ⟨A1, c1, l1, rfl, h1, h2⟩
  rw [H1.out] at h1
  have HN1 := Lib.hid h1; have HN2 := Lib.hid h2
  clear h1 h2 hx8
  go_wp2_with fail
  go_loopw [0, 13] (fun vb vi wr => ∃ (k : Nat) (A' : Option Addr) (c' l' : Nat), k ≤ cs.length ∧ vb = .slice A' l' c' ∧ vi = .int .i64 k ∧ Hid (OwnB base wr A' c' l' (xs ++ (cs.length : Int) :: (cs.take k).flatMap cellL) ∧ Grow base w wr)) (fun _ vi _ => cs.length - (intOf vi).toNat)
  case atStart => exact ⟨0, A1, c1, l1, by omega, rfl, rfl, Lib.hid ⟨HN1.out, HN2.out⟩⟩
  case round =>
    obtain ⟨k, A', c', l', hk, rfl, rfl, HH⟩ := hrel
    by_cases hlt : k < cs.length
    · have hc : cs[k]? = some (cs[k]'hlt) := List.getElem?_eq_getElem hlt
      have htk := List.take_succ_eq_append_getElem hlt
      have hoc := okC_of _ (List.all_eq_true.1 HALL.out _ (List.getElem_mem hlt))
      have hfl := flat_len (cs.take k) (by
        have := HALL.out
        rw [← List.take_append_drop k cs, List.all_append, Bool.and_eq_true] at this
        exact this.1)
      generalize cs[k]'hlt = x at hc htk hoc
      obtain ⟨f1, f2⟩ := flat2 cs k x hc
      obtain ⟨b, o, rfl, hb, hcell⟩ := HR.out.at_ f1
      have hbb := HLOW.out b o rfl (by omega)
      have e1 : wr.cell? ⟨b, o + k * 2, none⟩ = some (.string x.s) := (HH.out.2.cell (p := ⟨b, _, none⟩) hbb).trans (hcell _ _ f1)
      have e2 : wr.cell? ⟨b, o + k * 2 + 1, none⟩ = some (.int .i64 x.n) := (HH.out.2.cell (p := ⟨b, _, none⟩) hbb).trans (by rw [Nat.add_assoc]; exact hcell _ _ f2)
      obtain ⟨s1, s32, n0, n16⟩ := hoc
      have htl : (cs.take k).length ≤ 64 := by rw [List.length_take]; omega
      have hlen : (xs ++ (cs.length : Int) :: (cs.take k).flatMap cellL).length ≤ 1010000 := by rw [List.length_append, List.length_cons]; omega
      have HLEN := Lib.hid hlen; have HTK := Lib.hid htk
      have hg0 : Grow base wr (wr.alloc (.cells #[.string x.s, .int .i64 x.n] 41)) := ⟨by simp, fun B' w0 hB' hb => hb.alloc (by have := HH.out.2.1; omega) _, Others.alloc (fun _ _ _ _ _ h => h) _⟩
      have HG0 := Lib.hid hg0
      have HX := Lib.hid (heap_alloc_new wr (.cells #[.string x.s, .int .i64 x.n] 41))
      have HF1 := Lib.hid (fourT_one (x.s.size : Int) (by omega) (by omega))
      clear hc htk f1 f2 hcell hfl hlen htl hg0
      have hle1 : (xs ++ (cs.length : Int) :: (cs.take k).flatMap cellL).length ≤ 100000000 := by have := HLEN.out; omega
      have HL1 := Lib.hid hle1
      clear hle1
      go_wp2_with fail
      refine (num_r base A' c' l' _ (x.s.size : Int) 1 (by omega) (by omega) (by decide) (by decide) _ (Nat.le_trans hB (Nat.le_trans HH.out.2.1 HG0.out.1)) (.inl (HH.out.1.alloc _)) HL1.out).mono ?_
      rintro e w2 ⟨A2, c2, l2, rfl, h1, h2⟩
      rw [HF1.out] at h1
      have G1 := Lib.hid h1; have G2 := Lib.hid h2
      clear h1 h2 e1 e2
      have e3 : w2.cell? ⟨wr.heap.size, 0, none⟩ = some (.string x.s) := others_cell G2.out.3 (by decide) HX.out 0
      have hk2 : (xs ++ (cs.length : Int) :: (cs.take k).flatMap cellL ++ [(x.s.size : Int)]).length + x.s.size ≤ 140737488351232 := by rw [List.length_append]; have := HLEN.out; simp only [List.length_singleton]; omega
      have HK2 := Lib.hid hk2
      have HP2 : Hid (0 < l2) := Lib.hid (by rw [G1.out.1, List.length_append]; exact Nat.succ_pos _)
      have HB2 := Lib.hid (Nat.le_trans hB (Nat.le_trans HH.out.2.1 (Nat.le_trans HG0.out.1 G2.out.1)))
      clear hk2
      go_wp2_with (at_builtin; refine app_s rfl _ _ rfl A2 c2 l2 _ rfl G1.out HB2.out HP2.out x.s rfl HK2.out ?_; intro A3 c3 l3 w3 h1 h2; have G4 := Lib.hid h1; have G3 := Lib.hid h2; clear h1 h2; have e4 : w3.cell? ⟨wr.heap.size, 1, none⟩ = some (.int .i64 x.n) := others_cell (G2.out.trans G3.out).3 (by decide) HX.out 1)
      have hx3 : (xs ++ (cs.length : Int) :: (cs.take k).flatMap cellL ++ [(x.s.size : Int)] ++ sbytes x.s).length ≤ 100000000 := by
        rw [List.length_append, List.length_append, sbytes_len]; have := HLEN.out; simp only [List.length_singleton]; omega
      have HX3 := Lib.hid hx3
      clear hx3 e3
      refine (num_r base A3 c3 l3 _ x.n 4 n0 (by omega) (by decide) (by decide) _ (Nat.le_trans HB2.out G3.out.1) (.inl G4.out) HX3.out).mono ?_
      rintro e w4 ⟨A4, c4, l4, rfl, h4, g4⟩
      rw [four4] at h4
      have HO4 := Lib.hid h4; have HG4 := Lib.hid g4
      clear h4 g4 e4
      go_wp2_with fail
      go_roundw
      case rel =>
        refine ⟨k + 1, A4, c4, l4, by omega, rfl, by go_num, Lib.hid ⟨?_, HH.out.2.trans (HG0.out.trans (G2.out.trans (G3.out.trans HG4.out)))⟩⟩
        have hf : xs ++ (cs.length : Int) :: (cs.take (k + 1)).flatMap cellL = xs ++ (cs.length : Int) :: (cs.take k).flatMap cellL ++ [(x.s.size : Int)] ++ sbytes x.s ++ fourT 4 x.n := by
          rw [HTK.out, List.flatMap_append]
          simp [cellL]
        rw [hf]
        exact HO4.out
      case measure => simp [intOf]; omega
    · have hkl : k = cs.length := by omega
      subst hkl
      go_wp2_with fail
      go_ret
      refine ⟨_, _, _, rfl, ?_, HH.out.2⟩
      have h := HH.out.1
      rw [List.take_length] at h
      exact h
end Go.Proofs.Ytgcmbleinobneaa.Ip
