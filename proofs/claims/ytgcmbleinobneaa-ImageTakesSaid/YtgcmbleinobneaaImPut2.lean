/- DERIVED. The contract of the reference's Put. By an AI agent. -/
import Derived.Test.YtgcmbleinobneaaImPut
import Derived.ArgAppend
import Derived.Lib.SlBytesConst
namespace Go.Proofs.Ytgcmbleinobneaa.ImRef
open Go.ChangeShapes Go.WideShapes Go.ChangeAt Go.RowKit Args
set_option linter.unusedVariables false
def msk1 : List Int := [77, 83, 75, 49]
def headL (m : Man) (n : Nat) : List Int := msk1 ++ fourT 4 m.o ++ fourT 4 m.s ++ fourT 4 m.r ++ fourT 4 m.w ++ fourT 4 n
def codeL (zs : List Int) : List Int := zs.flatMap fun z => [z % 256, z / 256]
def putL (zs : List Int) (m : Man) : List Int := headL m zs.length ++ codeL zs ++ listL m.se ++ listL m.pu ++ listL m.ou
def putE (zs : List Int) (m : Man) : Nat := if canM m then (if 60000 < zs.length then 2 else 0) else 1
theorem code_len : ∀ zs : List Int, (codeL zs).length = 2 * zs.length
  | [] => rfl
  | z :: zs => by have := code_len zs; simp only [codeL, List.flatMap_cons, List.length_append, List.length_cons, List.length_nil] at this ⊢; omega
theorem list_len (l : List TI) (h : cellsB l = true) : (listL l).length ≤ 10000 := by
  unfold cellsB at h
  simp only [Bool.and_eq_true, decide_eq_true_eq] at h
  have := flat_len l h.1
  simp only [listL, List.length_cons]; omega
theorem Cs.low {w : World} {A : Option Addr} {l : List TI} (h : Cs w A l) : ∀ b o, A = some ⟨b, o, none⟩ → 0 < l.length → b < w.heap.size + 1 := fun b o e hp => by
  cases l with
  | nil => exact absurd hp (by simp)
  | cons x r =>
    obtain ⟨b', o', e', hb, _⟩ := h.1.at_ (flat2 (x :: r) 0 x rfl).1
    rw [e] at e'; cases e'; omega
theorem keep3 {g : Nat} {W W' : World} {x0 x1 x2 : Option Value} (h : W.cell? ⟨g, 4, none⟩ = x0 ∧ W.cell? ⟨g, 5, none⟩ = x1 ∧ W.cell? ⟨g, 6, none⟩ = x2) (hb : ∀ i, W'.cell? ⟨g, i, none⟩ = W.cell? ⟨g, i, none⟩) :
    W'.cell? ⟨g, 4, none⟩ = x0 ∧ W'.cell? ⟨g, 5, none⟩ = x1 ∧ W'.cell? ⟨g, 6, none⟩ = x2 := by
  rw [hb, hb, hb]; exact h
theorem nums_of (m : Man) (h : canM m = true) : (0 ≤ m.o ∧ m.o ≤ 2147483647) ∧ (0 ≤ m.s ∧ m.s ≤ 2147483647) ∧ (0 ≤ m.r ∧ m.r ≤ 2147483647) ∧ (0 ≤ m.w ∧ m.w ≤ 16000) ∧ cellsB m.se = true ∧ cellsB m.pu = true ∧ cellsB m.ou = true := by
  unfold canM numsB at h
  simp only [Bool.and_eq_true, decide_eq_true_eq] at h
  obtain ⟨⟨⟨⟨⟨⟨⟨⟨⟨⟨a, b⟩, c⟩, d⟩, e⟩, f⟩, g⟩, i⟩, j⟩, k⟩, l⟩ := h
  exact ⟨⟨a, b⟩, ⟨c, d⟩, ⟨e, f⟩, ⟨g, i⟩, j, k, l⟩
theorem four_len (n : Int) : (fourT 4 n).length = 4 := by simp [fourT]
/-- A row without room, of which the cells alone are known (it may be marked). -/
def FullB (base : Nat) (w : World) (A : Option Addr) (c l : Nat) (xs : List Int) : Prop := l = xs.length ∧ c = l ∧ ∃ g, A = some ⟨g, 0, none⟩ ∧ base ≤ g ∧ g < w.heap.size ∧ ∀ j u, (bvals xs)[j]? = some u → w.cell? ⟨g, j, none⟩ = some u
def RowB (base : Nat) (w : World) (A : Option Addr) (c l : Nat) (xs : List Int) : Prop := OwnB base w A c l xs ∨ FullB base w A c l xs
theorem own_base {base b2 : Nat} {w : World} {e : TypeId} {size : Nat} {v : Value} {n : Nat} {xs : List Value} (h : w.ownsRow base e size v n xs) (hb : b2 ≤ base) : w.ownsRow b2 e size v n xs :=
  ⟨h.1, h.2.imp id fun ⟨g, cap, cur, e1, e2, r⟩ => ⟨g, cap, cur, e1, Nat.le_trans hb e2, r⟩⟩
set_option maxHeartbeats 400000 in
theorem app_r {ops : Array Oper} {rest : List Oper} {o : Oper} {a : Act} {Q : Exit → Act → World → Prop} {w : World} (hgd : o.guard = none) (s x : Operand)
    (ho : o.op = .call { callee := .builtin .append, args := #[s, x], argTypes := #[28, 28] })
    (A : Option Addr) (c l : Nat) (xs : List Int) (hs : a.eval s = .slice A l c) {base : Nat} (hown : RowB base w A c l xs) (hB : base ≤ w.heap.size) (ys : List Int) (hy : 0 < ys.length)
    (hx : a.eval x = .slice (some ⟨w.heap.size, 0, none⟩) ys.length ys.length) (hk : xs.length + ys.length ≤ 140737488351232)
    (h : ∀ A' c' l' w', OwnB base w' A' c' l' (xs ++ ys) → Grow base w w' → wpList Try.prog ops Q rest (a.put o.dst (.slice A' l' c')) w') :
    wpList Try.prog ops Q (o :: rest) a (w.alloc (.cells (bvals ys).toArray 5)) := by
  rcases hown with hown | ⟨rfl, rfl, g, rfl, hbg, hgl, hcs⟩
  · exact app_b hgd s x ho A c l xs hs hown hB ys hy hx hk h
  obtain ⟨i0, hi, hz0, hz1, hz2⟩ := info_parts infoB
  refine wpList_append_grows _ hgd s x 28 ho 5 i0 (.int .u8 0) 1 1 Try.underlying28 hi hz0 hz1 hz2 rfl (by decide) (some ⟨g, 0, none⟩) xs.length xs.length (bvals xs) hs (fun h => nomatch h) (by simp [bvals]) ?_ ⟨w.heap.size, 0, none⟩ ys.length ys.length (bvals ys) hx (by simp [bvals]) ?_ ?_ (by omega) (by unfold maxLen; omega) (by omega) ?_
  · intro b hb j u hj
    cases hb
    rw [Args.add_plain, Nat.zero_add]
    exact Lib.cell?_alloc_marked _ (hcs j u hj)
  · intro j u hj
    rw [Args.add_plain, Nat.zero_add, World.cell?_alloc_at _ _ _ _ rfl]
    simpa using hj
  · intro u hu
    simp [bvals] at hu
    obtain ⟨z, _, rfl⟩ := hu
    rfl
  · intro v' w' h1 h2
    have h1 := own_base h1 (show base ≤ _ by simp; omega)
    obtain ⟨g, cap, e, _, _⟩ := World.ownsRow.form h1 (by omega)
    subst e
    refine h _ _ _ w' ⟨(List.length_append).symm, by rw [show bvals (xs ++ ys) = bvals xs ++ bvals ys by simp [bvals]]; exact h1⟩ ⟨by have := h2.size; simp at this; omega, fun B w0 hB' hb => ?_, (others_grown h2 (fun _ _ _ _ _ _ => nofun)).of_alloc⟩
    exact (hb.alloc (by omega) _).grown h2 (by simp; omega) (fun q hq => nomatch hq)
set_option maxHeartbeats 1000000 in
theorem four_r (base : Nat) (A : Option Addr) (c l : Nat) (xs : List Int) (n : Int) (h0 : 0 ≤ n) (hn : n ≤ 9223372036854775807) (w : World) (hB : base ≤ w.heap.size) (hown : RowB base w A c l xs) (hx : xs.length ≤ 100000000) :
    Calls Try.prog 22 #[.slice A l c, .int .i64 n] w fun e w' => ∃ A' c' l', e = .returned (.slice A' l' c') ∧ OwnB base w' A' c' l' (xs ++ fourT 4 n) ∧ Grow base w w' := by
  have HO := Lib.hid hown
  clear hown
  go_enter Try.func22, Try.ntmps22
  go_wp2_with fail
  go_loopw [0, 1, 5] (fun vb vn vi wr => ∃ (k : Nat) (m : Int) (A' : Option Addr) (c' l' : Nat), k ≤ 4 ∧ vb = .slice A' l' c' ∧ vi = .int .i64 k ∧ vn = .int .i64 m ∧ 0 ≤ m ∧ m ≤ 9223372036854775807 ∧ Hid (m = n / 256 ^ k ∧ RowB base wr A' c' l' (xs ++ fourT k n) ∧ Grow base w wr ∧ (0 < k → OwnB base wr A' c' l' (xs ++ fourT k n)))) (fun _ _ vi _ => 4 - (intOf vi).toNat)
  case atStart => exact ⟨0, n, A, c, l, by omega, rfl, rfl, rfl, h0, hn, Lib.hid ⟨by simp, by simpa [fourT] using HO.out, Grow.refl _ _, fun h => absurd h (by decide)⟩⟩
  case round =>
    obtain ⟨k, m, A', c', l', hk, rfl, rfl, rfl, hm0, hm, HH⟩ := hrel
    by_cases hlt : k < 4
    · have hln : (xs ++ fourT k n).length + [m % 256].length ≤ 140737488351232 := by simp [fourT]; omega
      have HLN := Lib.hid hln
      clear hln
      go_wp2_with (at_builtin; refine app_r rfl _ _ rfl A' c' l' (xs ++ fourT k n) rfl HH.out.2.1 (Nat.le_trans hB HH.out.2.2.1.1) [m % 256] (Nat.succ_pos _) rfl HLN.out ?_; intro A2 c2 l2 w' h1 h2; have HN1 := Lib.hid h1; have HN2 := Lib.hid h2; clear h1 h2)
      go_roundw
      case rel =>
        have hf : xs ++ fourT k n ++ [m % 256] = xs ++ fourT (k + 1) n := by rw [fourT_succ, List.append_assoc, HH.out.1]
        have hd : m / 256 = n / 256 ^ (k + 1) := by rw [HH.out.1, div_next]
        exact ⟨k + 1, m / 256, A2, c2, l2, by omega, rfl, by go_num, rfl, by omega, by omega, Lib.hid ⟨hd, by rw [← hf]; exact .inl HN1.out, HH.out.2.2.1.trans HN2.out, fun _ => by rw [← hf]; exact HN1.out⟩⟩
      case measure => simp [intOf]; omega
    · have h4 : k = 4 := by omega
      subst h4
      go_wp2_with fail
      go_ret
      exact ⟨_, _, _, rfl, HH.out.2.2.2 (by decide), HH.out.2.2.1⟩
theorem full_new {base : Nat} (W : World) (hB : base ≤ W.heap.size) (ys : List Int) (fr : Nat × Nat) : FullB base (W.alloc (.cells (bvals ys).toArray 5 fr)).drew (some ⟨W.heap.size, 0, none⟩) ys.length ys.length ys :=
  ⟨rfl, rfl, W.heap.size, rfl, hB, by simp, fun j u hj => by
    show (W.alloc _).cell? _ = _
    rw [World.cell?_alloc_mark]; simpa using hj⟩
theorem grow_new {base : Nat} (W : World) (hB : base ≤ W.heap.size) (o : Obj) : Grow base W (W.alloc o).drew := ⟨by simp, fun B' w0 hB' hb => (hb.alloc (by omega) _).drew, Others.alloc (fun _ _ _ _ _ h => h) _⟩
theorem keep4 {base g : Nat} {W W' : World} {x0 x1 x2 x3 : Option Value} (h : W.cell? ⟨g, 0, none⟩ = x0 ∧ W.cell? ⟨g, 1, none⟩ = x1 ∧ W.cell? ⟨g, 2, none⟩ = x2 ∧ W.cell? ⟨g, 3, none⟩ = x3) (hg : Grow base W W') (hl : g < base) :
    W'.cell? ⟨g, 0, none⟩ = x0 ∧ W'.cell? ⟨g, 1, none⟩ = x1 ∧ W'.cell? ⟨g, 2, none⟩ = x2 ∧ W'.cell? ⟨g, 3, none⟩ = x3 := by
  have hp : ∀ i, W'.cell? ⟨g, i, none⟩ = W.cell? ⟨g, i, none⟩ := fun i => hg.cell hl
  rw [hp, hp, hp, hp]; exact h
set_option maxRecDepth 100000 in
set_option maxHeartbeats 8000000 in
theorem put (A0 : Option Addr) (cap : Nat) (zs : List Int) (m : Man) (A4 A5 A6 : Option Addr) (c4 c5 c6 : Nat) (w : World) (hz : Lies w A0 (zs.map (.int .u16))) (hzb : ∀ z ∈ zs, 0 ≤ z ∧ z ≤ 65535) (hzl : zs.length ≤ 140737488351232) (h4 : Cs w A4 m.se) (h5 : Cs w A5 m.pu) (h6 : Cs w A6 m.ou)
    (hc : canM m = true) (hl : zs.length ≤ 60000) :
    Calls Try.prog 11 #[.slice A0 zs.length cap, man m A4 A5 A6 c4 c5 c6] w fun e w' => ∃ A' c' l', e = .returned (.tuple #[.slice A' l' c', .int .i64 0]) ∧ OwnB (w.heap.size + 1) w' A' c' l' (putL zs m) ∧ Below w.heap.size w w' := by
  have hcan := fun W h4 h5 h6 => can m A4 A5 A6 c4 c5 c6 W h4 h5 h6
  rw [hc] at hcan
  obtain ⟨⟨o0, o1⟩, ⟨s0, s1⟩, ⟨r0, r1⟩, ⟨w0, w1⟩, k4, k5, k6⟩ := nums_of m hc
  have HCAN := Lib.hid hcan; have HZ := Lib.hid hz; have HZB := Lib.hid hzb; have H4 := Lib.hid h4; have H5 := Lib.hid h5; have H6 := Lib.hid h6
  have K4 := Lib.hid k4; have K5 := Lib.hid k5; have K6 := Lib.hid k6
  clear hcan hz hzb h4 h5 h6 hc k4 k5 k6
  go_enter Try.func11, Try.ntmps11
  go_wp2_with fail
  have hb0 : ∀ o, Below w.heap.size w (w.alloc o) := fun o => (Below.refl _ _).alloc (Nat.le_refl _) _
  refine (HCAN.out _ (H4.out.below (hb0 _)) (H5.out.below (hb0 _)) (H6.out.below (hb0 _))).mono ?_
  rintro e wa ⟨rfl, hb1⟩
  have hcell : ∀ i, wa.cell? ⟨w.heap.size, i, none⟩ = _ := fun i => (hb1.cell (p := ⟨w.heap.size, i, none⟩) (by simp)).trans (World.cell?_alloc_at _ _ _ _ rfl)
  have q0 : wa.cell? ⟨w.heap.size, 0, none⟩ = some (.int .i64 m.o) := hcell 0
  have q1 : wa.cell? ⟨w.heap.size, 1, none⟩ = some (.int .i64 m.s) := hcell 1
  have q2 : wa.cell? ⟨w.heap.size, 2, none⟩ = some (.int .i64 m.r) := hcell 2
  have q3 : wa.cell? ⟨w.heap.size, 3, none⟩ = some (.int .i64 m.w) := hcell 3
  have HQ := Lib.hid (And.intro (hcell 4) (And.intro (hcell 5) (hcell 6)))
  have hz1 : w.heap.size + 1 ≤ wa.heap.size := by have := hb1.size; simp at this; exact this
  have HBW := Lib.hid ((hb0 _).trans (hb1.mono (by simp)))
  clear hb0 hb1 hcell
  go_upto_region 5 with fail
  go_cut [6] (fun v wx => ∃ A' c' l', v = .slice A' l' c' ∧ Hid (OwnB (w.heap.size + 1) wx A' c' l' (headL m zs.length) ∧ Grow (w.heap.size + 1) wa wx))
  case first =>
    have kc : ∀ (W : World) (C : Array Value) (n c : Nat), (Go.convert 28 28 (.slice (some ⟨W.heap.size, 0, none⟩) n c)).run Try.prog (W.alloc (.cells C 5)).drew = .ok (.slice (some ⟨W.heap.size, 0, none⟩) n c) (W.alloc (.cells C 5 (C.size, C.size + 1))).drew := fun W C n c => Lib.run_convert_bytes_const (P := Try.prog) W.drew 28 5 C n c Try.underlying28 Try.underlying5
    have OWN0 := Lib.hid (full_new wa hz1 msk1 (4, 5))
    have G0 := Lib.hid (grow_new wa hz1 (.cells (bvals msk1).toArray 5 (4, 5)))
    have LE0 := Lib.hid (Nat.le_trans hz1 G0.out.1)
    have Z0 := Lib.hid (keep4 (And.intro q0 (And.intro q1 (And.intro q2 q3))) G0.out (Nat.lt_succ_self _))
    refine wp_region_held_drew (S := fun w' => w'.cell? ⟨w.heap.size, 0, none⟩ = some (.int .i64 m.o) ∧ w'.cell? ⟨w.heap.size, 1, none⟩ = some (.int .i64 m.s) ∧ w'.cell? ⟨w.heap.size, 2, none⟩ = some (.int .i64 m.r) ∧ w'.cell? ⟨w.heap.size, 3, none⟩ = some (.int .i64 m.w)) (by kernel_rfl) (by (try dsimp only); go_keep) (fun hH => ?_)
    refine wpAnyH_take (i := 2) (v := ?_) rfl (by kernel_rfl) (by kernel_rfl) (by kernel_rfl) (fun _ _ _ h => h) (Or.inl ⟨by rfl, ?_⟩) (by assumption) ?_
    rotate_left
    · (intro w hSw; (try dsimp only at hSw); go_simp; try with_reducible rfl)
    try simp only [Act.put, List.getElem_toArray, List.getElem_cons_succ, List.getElem_cons_zero, List.setIfInBounds_toArray, List.set_cons_zero, List.set_cons_succ]
    refine wpAnyH_take (i := 3) (v := ?_) rfl (by kernel_rfl) (by kernel_rfl) (by kernel_rfl) (fun _ _ _ h => h) (Or.inl ⟨by rfl, ?_⟩) (by assumption) ?_
    rotate_left
    · (intro w hSw; (try dsimp only at hSw); go_simp; try with_reducible rfl)
    try simp only [Act.put, List.getElem_toArray, List.getElem_cons_succ, List.getElem_cons_zero, List.setIfInBounds_toArray, List.set_cons_zero, List.set_cons_succ]
    refine wpAnyH_take (i := 5) (v := ?_) rfl (by kernel_rfl) (by kernel_rfl) (by kernel_rfl) (fun _ _ _ h => h) (Or.inl ⟨by rfl, ?_⟩) (by assumption) ?_
    rotate_left
    · (intro w hSw; (try dsimp only at hSw); go_simp; try with_reducible rfl)
    try simp only [Act.put, List.getElem_toArray, List.getElem_cons_succ, List.getElem_cons_zero, List.setIfInBounds_toArray, List.set_cons_zero, List.set_cons_succ]
    refine wpAnyH_take (i := 6) (v := ?_) rfl (by kernel_rfl) (by kernel_rfl) (by kernel_rfl) (fun _ _ _ h => h) (Or.inl ⟨by rfl, ?_⟩) (by assumption) ?_
    rotate_left
    · (intro w hSw; (try dsimp only at hSw); go_simp; try with_reducible rfl)
    try simp only [Act.put, List.getElem_toArray, List.getElem_cons_succ, List.getElem_cons_zero, List.setIfInBounds_toArray, List.set_cons_zero, List.set_cons_succ]
    refine wpAnyH_take (i := 8) (v := ?_) rfl (by kernel_rfl) (by kernel_rfl) (by kernel_rfl) (fun _ _ _ h => h) (Or.inl ⟨by rfl, ?_⟩) (by assumption) ?_
    rotate_left
    · (intro w hSw; (try dsimp only at hSw); go_simp; try with_reducible rfl)
    try simp only [Act.put, List.getElem_toArray, List.getElem_cons_succ, List.getElem_cons_zero, List.setIfInBounds_toArray, List.set_cons_zero, List.set_cons_succ]
    refine wpAnyH_take (i := 9) (v := ?_) rfl (by kernel_rfl) (by kernel_rfl) (by kernel_rfl) (fun _ _ _ h => h) (Or.inl ⟨by rfl, ?_⟩) (by assumption) ?_
    rotate_left
    · (intro w hSw; (try dsimp only at hSw); go_simp; try with_reducible rfl)
    try simp only [Act.put, List.getElem_toArray, List.getElem_cons_succ, List.getElem_cons_zero, List.setIfInBounds_toArray, List.set_cons_zero, List.set_cons_succ]
    refine wpAnyH_take (i := 11) (v := ?_) rfl (by kernel_rfl) (by kernel_rfl) (by kernel_rfl) (fun _ _ _ h => h) (Or.inl ⟨by rfl, ?_⟩) (by assumption) ?_
    rotate_left
    · (intro w hSw; (try dsimp only at hSw); go_simp; try with_reducible rfl)
    try simp only [Act.put, List.getElem_toArray, List.getElem_cons_succ, List.getElem_cons_zero, List.setIfInBounds_toArray, List.set_cons_zero, List.set_cons_succ]
    refine wpAnyH_take (i := 12) (v := ?_) rfl (by kernel_rfl) (by kernel_rfl) (by kernel_rfl) (fun _ _ _ h => h) (Or.inl ⟨by rfl, ?_⟩) (by assumption) ?_
    rotate_left
    · (intro w hSw; (try dsimp only at hSw); go_simp; try with_reducible rfl)
    try simp only [Act.put, List.getElem_toArray, List.getElem_cons_succ, List.getElem_cons_zero, List.setIfInBounds_toArray, List.set_cons_zero, List.set_cons_succ]
    refine wpAnyH_take (i := 14) (v := ?_) rfl (by kernel_rfl) (by kernel_rfl) (by kernel_rfl) (fun _ _ _ h => h) (Or.inl ⟨by rfl, ?_⟩) (by assumption) ?_
    rotate_left
    · (intro w hSw; (try dsimp only at hSw); go_simp; try with_reducible rfl)
    try simp only [Act.put, List.getElem_toArray, List.getElem_cons_succ, List.getElem_cons_zero, List.setIfInBounds_toArray, List.set_cons_zero, List.set_cons_succ]
    refine wpAnyH_take (i := 15) (v := ?_) rfl (by kernel_rfl) (by kernel_rfl) (by kernel_rfl) (fun _ _ _ h => h) (Or.inl ⟨by rfl, ?_⟩) (by assumption) ?_
    rotate_left
    · (intro w hSw; (try dsimp only at hSw); go_simp; try with_reducible rfl)
    try simp only [Act.put, List.getElem_toArray, List.getElem_cons_succ, List.getElem_cons_zero, List.setIfInBounds_toArray, List.set_cons_zero, List.set_cons_succ]
    refine wpAnyH_ready (rs := [0]) (by kernel_rfl) (by simp) (AllReadyH.cons rfl (fun K hK => ?_) AllReadyH.nil)
    go_simp
    refine hK.out _ _ (by (try dsimp only); go_keep) (fun hN => ?_)
    clear hK K hH
    have hH := hN
    clear hN
    try simp only [Act.put, List.setIfInBounds_toArray, List.set_cons_zero, List.set_cons_succ]
    refine wpAnyH_ready (rs := [1]) (by kernel_rfl) (by simp) (AllReadyH.cons rfl (fun K hK => ?_) AllReadyH.nil)
    go_simp
    refine hK.out _ _ (by exact Z0.out) (fun hN => ?_)
    clear hK K hH
    have hH := hN
    clear hN
    try simp only [Act.put, List.setIfInBounds_toArray, List.set_cons_zero, List.set_cons_succ]
    refine wpAnyH_ready (rs := [4]) (by kernel_rfl) (by simp) (AllReadyH.cons rfl (fun K hK => ?_) AllReadyH.nil)
    go_simp
    go_at_call 22; refine (four_r (w.heap.size + 1) _ _ _ msk1 m.o o0 (by omega) _ LE0.out (.inr OWN0.out) (by simp [msk1])).mono ?_; rintro e u1 ⟨A1', d1, l1, rfl, x1, y1⟩; have X1 := Lib.hid x1; have Y1 := Lib.hid y1; have L1 := Lib.hid (Nat.le_trans LE0.out y1.1); have Z1 := Lib.hid (keep4 Z0.out y1 (Nat.lt_succ_self _)); clear x1 y1
    go_wp2_with fail
    refine hK.out _ _ (by exact Z1.out) (fun hN => ?_)
    clear hK K hH
    have hH := hN
    clear hN
    try simp only [Act.put, List.setIfInBounds_toArray, List.set_cons_zero, List.set_cons_succ]
    refine wpAnyH_ready (rs := [7]) (by kernel_rfl) (by simp) (AllReadyH.cons rfl (fun K hK => ?_) AllReadyH.nil)
    go_simp
    go_at_call 22; refine (four (w.heap.size + 1) _ _ _ (msk1 ++ fourT 4 m.o) m.s s0 (by omega) _ L1.out X1.out (by simp [msk1, fourT])).mono ?_; rintro e u2 ⟨A2', d2, l2, rfl, x2, y2⟩; have X2 := Lib.hid x2; have Y2 := Lib.hid y2; have L2 := Lib.hid (Nat.le_trans L1.out y2.1); have Z2 := Lib.hid (keep4 Z1.out y2 (Nat.lt_succ_self _)); clear x2 y2
    go_wp2_with fail
    refine hK.out _ _ (by exact Z2.out) (fun hN => ?_)
    clear hK K hH
    have hH := hN
    clear hN
    try simp only [Act.put, List.setIfInBounds_toArray, List.set_cons_zero, List.set_cons_succ]
    refine wpAnyH_ready (rs := [10]) (by kernel_rfl) (by simp) (AllReadyH.cons rfl (fun K hK => ?_) AllReadyH.nil)
    go_simp
    go_at_call 22; refine (four (w.heap.size + 1) _ _ _ ((msk1 ++ fourT 4 m.o) ++ fourT 4 m.s) m.r r0 (by omega) _ L2.out X2.out (by simp [msk1, fourT])).mono ?_; rintro e u3 ⟨A3', d3, l3, rfl, x3, y3⟩; have X3 := Lib.hid x3; have Y3 := Lib.hid y3; have L3 := Lib.hid (Nat.le_trans L2.out y3.1); have Z3 := Lib.hid (keep4 Z2.out y3 (Nat.lt_succ_self _)); clear x3 y3
    go_wp2_with fail
    refine hK.out _ _ (by exact Z3.out) (fun hN => ?_)
    clear hK K hH
    have hH := hN
    clear hN
    try simp only [Act.put, List.setIfInBounds_toArray, List.set_cons_zero, List.set_cons_succ]
    refine wpAnyH_ready (rs := [13]) (by kernel_rfl) (by simp) (AllReadyH.cons rfl (fun K hK => ?_) AllReadyH.nil)
    go_simp
    go_at_call 22; refine (four (w.heap.size + 1) _ _ _ (((msk1 ++ fourT 4 m.o) ++ fourT 4 m.s) ++ fourT 4 m.r) m.w w0 (by omega) _ L3.out X3.out (by simp [msk1, fourT])).mono ?_; rintro e u4 ⟨A4', d4, l4, rfl, x4, y4⟩; have X4 := Lib.hid x4; have Y4 := Lib.hid y4; have L4 := Lib.hid (Nat.le_trans L3.out y4.1); have Z4 := Lib.hid (keep4 Z3.out y4 (Nat.lt_succ_self _)); clear x4 y4
    go_wp2_with fail
    refine hK.out _ _ (by exact Z4.out) (fun hN => ?_)
    clear hK K hH
    have hH := hN
    clear hN
    try simp only [Act.put, List.setIfInBounds_toArray, List.set_cons_zero, List.set_cons_succ]
    refine wpAnyH_ready (rs := [16]) (by kernel_rfl) (by simp) (AllReadyH.cons rfl (fun K hK => ?_) AllReadyH.nil)
    go_simp
    go_at_call 22; refine (four (w.heap.size + 1) _ _ _ ((((msk1 ++ fourT 4 m.o) ++ fourT 4 m.s) ++ fourT 4 m.r) ++ fourT 4 m.w) (zs.length : Int) (Int.natCast_nonneg _) (by omega) _ L4.out X4.out (by simp [msk1, fourT])).mono ?_; rintro e u5 ⟨A5', d5, l5, rfl, x5, y5⟩; have X5 := Lib.hid x5; have Y5 := Lib.hid y5; have L5 := Lib.hid (Nat.le_trans L4.out y5.1); have Z5 := Lib.hid (keep4 Z4.out y5 (Nat.lt_succ_self _)); clear x5 y5
    go_wp2_with fail
    refine hK.out _ _ (by exact Z5.out) (fun hN => ?_)
    clear hK K hH
    have hH := hN
    clear hN
    try simp only [Act.put, List.setIfInBounds_toArray, List.set_cons_zero, List.set_cons_succ]
    refine wpAnyH_take (i := 17) (v := ?_) rfl (by kernel_rfl) (by kernel_rfl) (by kernel_rfl) (fun _ _ _ h => h) (Or.inl ⟨by rfl, ?_⟩) (by assumption) ?_
    rotate_left
    · (intro w hSw; (try dsimp only at hSw); go_simp; try with_reducible rfl)
    try simp only [Act.put, List.getElem_toArray, List.getElem_cons_succ, List.getElem_cons_zero, List.setIfInBounds_toArray, List.set_cons_zero, List.set_cons_succ]
    refine wpAnyH_done (by kernel_rfl) ?_ _
    go_wp2_with fail
    go_meet
    exact ⟨_, _, _, rfl, Lib.hid ⟨X5.out, G0.out.trans (Y1.out.trans (Y2.out.trans (Y3.out.trans (Y4.out.trans Y5.out))))⟩⟩
  case rest =>
    rename World => wx
    obtain ⟨A0', c0', l0', rfl, HX⟩ := hcut
    go_wp2_with fail
    go_loopw [6, 7] (fun vo vi wr => ∃ (k : Nat) (A' : Option Addr) (c' l' : Nat), k ≤ zs.length ∧ vo = .slice A' l' c' ∧ vi = .int .i64 k ∧ Hid (OwnB (w.heap.size + 1) wr A' c' l' (headL m zs.length ++ codeL (zs.take k)) ∧ Grow (w.heap.size + 1) wa wr)) (fun _ vi _ => zs.length - (intOf vi).toNat)
    case atStart => exact ⟨0, A0', c0', l0', by omega, rfl, rfl, Lib.hid ⟨by simpa [codeL] using HX.out.1, HX.out.2⟩⟩
    case round =>
      obtain ⟨k, A', c', l', hk, rfl, rfl, HH⟩ := hrel
      by_cases hlt : k < zs.length
      · have hc : zs[k]? = some (zs[k]'hlt) := List.getElem?_eq_getElem hlt
        have htk := List.take_succ_eq_append_getElem hlt
        have hzz := HZB.out _ (List.getElem_mem hlt)
        generalize zs[k]'hlt = z at hc htk hzz
        have f1 : (zs.map (Value.int .u16))[k]? = some (.int .u16 z) := by simp [hc]
        obtain ⟨b, o, rfl, hb, hcell⟩ := HZ.out.at_ f1
        have e1 : wr.cell? ⟨b, o + k, none⟩ = some (.int .u16 z) := (HH.out.2.cell (p := ⟨b, _, none⟩) (by show b < _; omega)).trans ((HBW.out.cell (p := ⟨b, _, none⟩) hb).trans (hcell _ _ f1))
        have HTK := Lib.hid htk
        clear hc htk f1 hcell
        obtain ⟨z0, z1⟩ := hzz
        have hlz : (headL m zs.length ++ codeL (zs.take k)).length + [z % 256, z / 256].length ≤ 140737488351232 := by
          have := code_len (zs.take k)
          rw [List.length_append, this, List.length_take]; simp [headL, msk1, fourT]; omega
        have HLZ := Lib.hid hlz
        have hw1 : IntKind.u8.wrap (z % 256) = z % 256 := by rw [IntKind.wrap_u8]; omega
        have hw2 : IntKind.u8.wrap (z / 256) = z / 256 := by rw [IntKind.wrap_u8]; omega
        have hm1 : z.tmod 256 = z % 256 := Int.tmod_eq_emod_of_nonneg z0
        have hm2 : z.tdiv 256 = z / 256 := Int.tdiv_eq_ediv_of_nonneg z0
        have hw3 : IntKind.u16.wrap (z / 256) = z / 256 := by rw [IntKind.wrap_u16]; omega
        have hBr : w.heap.size + 1 ≤ wr.heap.size := Nat.le_trans hz1 HH.out.2.1
        have HG0 := Lib.hid (grow_new wr hBr (.cells #[.int .u8 (z % 256), .int .u8 (z / 256)] 5))
        clear hlz
        go_wp2_with fail
        go_region_held3 (fun w' => w'.cell? ⟨b, o + k, none⟩ = some (.int .u16 z))
          (first | exact e1 | go_keep | (rw [G2.out.cell (p := ⟨b, o + k, none⟩) (by show b < _; omega), HG0.out.cell (p := ⟨b, o + k, none⟩) (by show b < _; omega)]; exact e1))
          ((first
            | (refine step_b rfl _ _ rfl A' c' l' _ rfl (base := w.heap.size + 1) (HH.out.1.alloc_drew _) (Nat.le_trans hBr (by simp)) [z % 256, z / 256] (Nat.succ_pos _) ⟨wr.heap.size, 0, none⟩ 2 2 rfl rfl (fun j u hj => World.news_of_block (cs := #[.int .u8 (z % 256), .int .u8 (z / 256)]) (t := 5) (fr := (0, 0)) (heap_alloc_new wr _) j u hj) HLZ.out ?_; intro A2 c2 l2 w2 h1 h2; have G1 := Lib.hid h1; have G2 := Lib.hid h2; clear h1 h2)))
        go_wp2_with fail
        go_roundw
        case rel =>
          have hf : headL m zs.length ++ codeL (zs.take (k + 1)) = headL m zs.length ++ codeL (zs.take k) ++ [z % 256, z / 256] := by
            rw [HTK.out, codeL, codeL, List.flatMap_append, List.append_assoc]; rfl
          exact ⟨k + 1, A2, c2, l2, by omega, rfl, by go_num, Lib.hid ⟨by rw [hf]; exact G1.out, HH.out.2.trans (HG0.out.trans G2.out)⟩⟩
        case measure => simp [intOf]; omega
      · have hkl : k = zs.length := by omega
        subst hkl
        have hx0 := HH.out.1
        rw [List.take_length] at hx0
        have O0 := Lib.hid hx0
        have M0 := Lib.hid (Nat.le_trans hz1 HH.out.2.1)
        have B0 := Lib.hid (HH.out.2.2 w.heap.size w (Nat.le_succ _) HBW.out)
        have P0 := Lib.hid (keep3 HQ.out fun i => HH.out.2.cell (p := ⟨w.heap.size, i, none⟩) (Nat.lt_succ_self _))
        have hln0 : (headL m zs.length ++ codeL zs).length ≤ 200000 := by
          rw [List.length_append, code_len]; simp [headL, msk1, fourT]; omega
        have LN0 : Hid ((headL m zs.length ++ codeL zs).length ≤ 1000000) := Lib.hid (by omega)
        have hs1 := list_len _ K4.out
        have hs2 := list_len _ K5.out
        have LN1 : Hid (((headL m zs.length ++ codeL zs) ++ listL m.se).length ≤ 1000000) := Lib.hid (by rw [List.length_append]; omega)
        have LN2 : Hid ((((headL m zs.length ++ codeL zs) ++ listL m.se) ++ listL m.pu).length ≤ 1000000) := Lib.hid (by rw [List.length_append, List.length_append]; omega)
        clear hx0 hln0 hs1 hs2
        go_wp2_with fail
        go_region_held3 (fun w' => w'.cell? ⟨w.heap.size, 4, none⟩ = some (.slice A4 m.se.length c4) ∧ w'.cell? ⟨w.heap.size, 5, none⟩ = some (.slice A5 m.pu.length c5) ∧ w'.cell? ⟨w.heap.size, 6, none⟩ = some (.slice A6 m.ou.length c6))
          (first | exact P3.out | exact P2.out | exact P1.out | exact P0.out | go_keep)
          ((first
            | (go_at_call 23; refine (list (w.heap.size + 1) _ _ _ (((headL m zs.length ++ codeL zs) ++ listL m.se) ++ listL m.pu) A6 c6 m.ou _ M2.out O2.out LN2.out (H6.out.below (B2.out)).1 H6.out.low K6.out).mono ?_; rintro e u3 ⟨A3', d3, l3, rfl, x3, y3⟩; have O3 := Lib.hid x3; have Y3 := Lib.hid y3; have M3 := Lib.hid (Nat.le_trans M2.out y3.1); have B3 := Lib.hid (y3.2 w.heap.size w (Nat.le_succ _) B2.out); have P3 := Lib.hid (keep3 P2.out fun i => y3.cell (p := ⟨w.heap.size, i, none⟩) (Nat.lt_succ_self _)); clear x3 y3)
            | (go_at_call 23; refine (list (w.heap.size + 1) _ _ _ ((headL m zs.length ++ codeL zs) ++ listL m.se) A5 c5 m.pu _ M1.out O1.out LN1.out (H5.out.below (B1.out)).1 H5.out.low K5.out).mono ?_; rintro e u2 ⟨A2', d2, l2, rfl, x2, y2⟩; have O2 := Lib.hid x2; have Y2 := Lib.hid y2; have M2 := Lib.hid (Nat.le_trans M1.out y2.1); have B2 := Lib.hid (y2.2 w.heap.size w (Nat.le_succ _) B1.out); have P2 := Lib.hid (keep3 P1.out fun i => y2.cell (p := ⟨w.heap.size, i, none⟩) (Nat.lt_succ_self _)); clear x2 y2)
            | (go_at_call 23; refine (list (w.heap.size + 1) _ _ _ (headL m zs.length ++ codeL zs) A4 c4 m.se wr.drew M0.out O0.out LN0.out (H4.out.below (B0.out)).1 H4.out.low K4.out).mono ?_; rintro e u1 ⟨A1', d1, l1, rfl, x1, y1⟩; have O1 := Lib.hid x1; have Y1 := Lib.hid y1; have M1 := Lib.hid (Nat.le_trans M0.out y1.1); have B1 := Lib.hid (y1.2 w.heap.size w (Nat.le_succ _) B0.out.drew); have P1 := Lib.hid (keep3 P0.out fun i => y1.cell (p := ⟨w.heap.size, i, none⟩) (Nat.lt_succ_self _)); clear x1 y1)))
        go_wp2_with fail
        go_ret2
        exact ⟨_, _, _, rfl, O3.out, B3.out⟩
end Go.Proofs.Ytgcmbleinobneaa.ImRef
