/- DERIVED. Contracts of the reference's numbers in a text. By an AI agent. -/
import Derived.Test.YthioplijcleioaaDoorTxRef
import Derived.Test.YthioplijcleioaaDoorThRef
import Derived.Test.YthioplijcleioaaDoorMem
import Derived.Deep.LoopGhost
import Derived.Deep.DeepCutAuto
import Derived.Laws.OwnMore
namespace Go.Proofs.YthioplijcleioaaDoor.Tx
open Go.ChangeShapes Go.WideShapes Go.ChangeAt Go.RowKit Go.Lib Args
set_option linter.unusedVariables false
theorem infoI : (Tryd.prog.info? 3).map (fun i => (i.zero, i.size, i.bytes)) = some (some (.int .i64 0), 1, 8) := by kernel_rfl
def ivals (l : List Int) : List Value := l.map (Value.int .i64)
theorem ivals_app (a b : List Int) : ivals (a ++ b) = ivals a ++ ivals b := by simp [ivals]
/-- A row of integers of the call's own, from block 'base' on. -/
def OwnI (base : Nat) (w : World) (A : Option Addr) (c : Nat) (xs : List Int) : Prop := w.ownsRow base 3 1 (.slice A xs.length c) xs.length (ivals xs)
set_option maxHeartbeats 400000 in
theorem app_i {ops : Array Oper} {rest : List Oper} {o : Oper} {a : Act} {Q : Exit → Act → World → Prop} {w : World} (hgd : o.guard = none) (s x : Operand)
    (ho : o.op = .call { callee := .builtin .append, args := #[s, x], argTypes := #[38, 38] })
    (A : Option Addr) (c l : Nat) (xs : List Int) (hl : l = xs.length) (hs : a.eval s = .slice A l c) {base : Nat} (hown : OwnI base w A c xs) (hB : base ≤ w.heap.size) (y : Int)
    (hx : a.eval x = .slice (some ⟨w.heap.size, 0, none⟩) 1 1) (hk : xs.length ≤ 1000000)
    (h : ∀ A' l' c' w', OwnI base w' A' c' (xs ++ [y]) → (l' = (xs ++ [y]).length) → (∀ w0, Below base w0 w → Below base w0 w') → w.heap.size ≤ w'.heap.size → wpList Tryd.prog ops Q rest (a.put o.dst (.slice A' l' c')) w') :
    wpList Tryd.prog ops Q (o :: rest) a (w.alloc (.cells #[.int .i64 y] 3)) := by
  subst hl
  obtain ⟨i0, hi, hz0, hz1, hz2⟩ := info_parts infoI
  refine wpList_append_own _ hgd s x 38 ho base 3 i0 (.int .i64 0) 1 8 Tryd.underlying38 hi hz0 hz1 hz2 rfl (by decide) (.slice A xs.length c) xs.length (ivals xs) hs (World.ownsRow.alloc hown _) ⟨w.heap.size, 0, none⟩ 1 1 [.int .i64 y] hx rfl ?_ ?_ (by unfold maxLen; omega) (by omega) (by simp; omega) ?_
  · intro j u hj
    rw [Args.add_plain, Nat.zero_add, World.cell?_alloc_at _ _ _ _ rfl]
    simpa using hj
  · intro u hu
    simp at hu
    subst hu
    rfl
  · intro v' w' h1 h2 _
    obtain ⟨g, cap, e, _, _⟩ := World.ownsRow.form h1 (by omega)
    subst e
    have hlo : ∀ q, (Value.slice A xs.length c).ownBlock = some q → base ≤ q := fun q hq => by
      rcases hown.2 with ⟨e, _⟩ | ⟨g, cap, cur, e, hb, _⟩
      · rw [e] at hq; simp [Value.ownBlock] at hq
      · rw [e] at hq; simp [Value.ownBlock] at hq
        omega
    refine h _ _ _ w' ?_ (by simp) (fun w0 hb => ?_) (by have := h2.size; simp at this; omega)
    · unfold OwnI
      rw [ivals_app, List.length_append]
      exact h1
    · exact (hb.alloc (by omega) _).grown h2 (by simp; omega) (fun q hq => by have := hlo q hq; omega)
theorem at_ (A : Option Addr) (c n : Nat) (xs : List Int) (hn : n = xs.length) (i : Nat) (w : World) (hL : Lies w A (ivals xs)) (hx : xs.length ≤ 1000000) :
    Calls Tryd.prog 18 #[.slice A n c, .int .i64 i] w fun e w' => e = .returned (.int .i64 (atL xs i)) ∧ w = w' := by
  subst hn
  by_cases hi : i < xs.length
  · have hj : (ivals xs)[i]? = some (.int .i64 (atL xs i)) := by
      unfold ivals atL
      rw [List.getElem?_map, List.getElem?_eq_getElem hi]
      rfl
    obtain ⟨b, o, rfl, hb, hc⟩ := hL.at_ hj
    have h1 := hc _ _ hj
    generalize atL xs i = z at *
    clear hj hc hL
    go_enter Tryd.func18, Tryd.ntmps18
    go_wp2
    go_ret
    exact ⟨rfl, rfl⟩
  · have hz : atL xs i = 0 := by unfold atL; rw [List.getElem?_eq_none (by omega)]; rfl
    rw [hz]
    clear hz hL
    go_enter Tryd.func18, Tryd.ntmps18
    go_wp2
    go_ret
    exact ⟨rfl, rfl⟩
/-! One number. -/
theorem dgs_step (n : Nat) (y : UInt8) (l : Txt) (acc : Nat) (h : dgB y = true) : dgs (n + 1) (y :: l) acc = dgs n l (acc * 10 + (y.toNat - 48)) := by rw [dgs, if_pos h]
theorem dgs_stop (n : Nat) (l : Txt) (acc : Nat) (h : n = 0 ∨ l = [] ∨ ∃ y r, l = y :: r ∧ dgB y = false) : dgs n l acc = (acc, l) := by
  rcases h with rfl | rfl | ⟨y, r, rfl, h⟩
  · rfl
  · cases n <;> rfl
  · cases n with
    | zero => rfl
    | succ n => rw [dgs, h]; rfl
/-- What has been read of D behind j digits. -/
structure Dg (D : Txt) (j nv : Nat) : Prop where
  run : dgs 6 D 0 = dgs (6 - j) (D.drop j) nv
  lt : nv < 10 ^ j
  le : j ≤ 6
  hd : 0 < j → ∃ y r, D = y :: r ∧ dgB y = true
theorem Dg.zero (D : Txt) : Dg D 0 0 := ⟨rfl, by simp, by omega, fun h => absurd h (by omega)⟩
theorem Dg.bnd {D : Txt} {j nv : Nat} (h : Dg D j nv) : nv < 1000000 := Nat.lt_of_lt_of_le h.lt (Nat.le_trans (Nat.pow_le_pow_right (by decide) h.le) (by decide))
theorem Dg.next {D : Txt} {j nv : Nat} (h : Dg D j nv) (hj : j < 6) (y : UInt8) (hy : D[j]? = some y) (hd : dgB y = true) : Dg D (j + 1) (nv * 10 + (y.toNat - 48)) := by
  have hl : j < D.length := (List.getElem?_eq_some_iff.1 hy).1
  have hD : D.drop j = y :: D.drop (j + 1) := by
    rw [List.drop_eq_getElem_cons hl, (List.getElem?_eq_some_iff.1 hy).2]
  refine ⟨?_, ?_, by omega, fun _ => ?_⟩
  · rw [h.run, hD, show 6 - j = (6 - (j + 1)) + 1 by omega, dgs_step _ _ _ _ hd]
  · have := h.lt
    have h2 : y.toNat - 48 ≤ 9 := by unfold dgB at hd; simp at hd; omega
    rw [Nat.pow_succ]; omega
  · by_cases h0 : 0 < j
    · exact h.hd h0
    · obtain rfl : j = 0 := by omega
      exact ⟨y, _, hD, hd⟩
/-- Where there are no more digits the number is told. -/
theorem Dg.done {D : Txt} {j nv : Nat} (h : Dg D j nv) (hs : j = 6 ∨ D[j]? = none ∨ ∃ y, D[j]? = some y ∧ dgB y = false) :
    (dgs 6 D 0).1 = nv ∧ ((j = 0 ∧ ∀ y r, D = y :: r → dgB y = false) ∨ (0 < j ∧ ∃ y r, D = y :: r ∧ dgB y = true)) := by
  refine ⟨?_, ?_⟩
  · rw [h.run, dgs_stop]
    rcases hs with rfl | hn | ⟨y, hy, hd⟩
    · exact Or.inl rfl
    · exact Or.inr (Or.inl (List.drop_eq_nil_of_le (List.getElem?_eq_none_iff.1 hn)))
    · have hl : j < D.length := (List.getElem?_eq_some_iff.1 hy).1
      exact Or.inr (Or.inr ⟨y, D.drop (j + 1), by rw [List.drop_eq_getElem_cons hl, (List.getElem?_eq_some_iff.1 hy).2], hd⟩)
  · by_cases h0 : 0 < j
    · exact Or.inr ⟨h0, h.hd h0⟩
    · obtain rfl : j = 0 := by omega
      refine Or.inl ⟨rfl, fun y r e => ?_⟩
      subst e
      rcases hs with h6 | hn | ⟨z, hz, hd⟩
      · omega
      · simp at hn
      · simp at hz; subst hz; exact hd
/-- The number that is told: with a sign, or none. -/
def mkD (D : Txt) (mn : Bool) : Option Int :=
  match D with
  | [] => none
  | y :: _ => if dgB y then some (if mn then -((dgs 6 D 0).1 : Int) else ((dgs 6 D 0).1 : Int)) else none
theorem mk1_minus (D : Txt) : mk1 (45 :: D) = mkD D true := by
  rw [mk1.eq_def]
  cases D <;> rfl
theorem mk1_plain (R : Txt) (h : ∀ y r, R = y :: r → y ≠ 45) : mk1 R = mkD R false := by
  cases R with
  | nil => rfl
  | cons y r =>
    rw [mk1.eq_def]
    simp only
    rw [if_neg (h y r rfl)]
    rfl
theorem mkD_none {D : Txt} {mn : Bool} (h : ∀ y r, D = y :: r → dgB y = false) : mkD D mn = none := by
  cases D with
  | nil => rfl
  | cons y r =>
    unfold mkD
    simp only [h y r rfl]
    rfl
theorem mkD_some {D : Txt} {mn : Bool} (h : ∃ y r, D = y :: r ∧ dgB y = true) : mkD D mn = some (if mn then -((dgs 6 D 0).1 : Int) else ((dgs 6 D 0).1 : Int)) := by
  obtain ⟨y, r, rfl, hd⟩ := h
  unfold mkD
  simp only [hd, if_true]
/-- The marks of what begins with x. -/
theorem marks_at (s : Txt) (k : Nat) (x : UInt8) (hx : s[k]? = some x) : marks (s.drop k) = (if x = 114 ∨ x = 35 then (match mk1 (s.drop (k + 1)) with | some v => [v] | none => []) else []) ++ marks (s.drop (k + 1)) := by
  have hl : k < s.length := (List.getElem?_eq_some_iff.1 hx).1
  rw [List.drop_eq_getElem_cons hl, (List.getElem?_eq_some_iff.1 hx).2, marks]
  split
  · cases mk1 (s.drop (k + 1)) <;> rfl
  · rfl
theorem ne_of_cast {x y : UInt8} (h : ((x.toNat : Nat) : Int) ≠ (y.toNat : Nat)) : x ≠ y := fun e => h (by rw [e])
set_option maxRecDepth 100000 in
set_option maxHeartbeats 8000000 in
theorem marksC (s : ByteArray) (hs : s.size ≤ 100000) (w : World) : Calls Tryd.prog 17 #[.string s] w fun e w' => ∃ A c, e = .returned (.slice A (marks s.data.toList).length c) ∧ OwnI w.heap.size w' A c (marks s.data.toList) ∧ Below w.heap.size w w' := by
  have hsz : s.data.toList.length = s.size := by simp
  have HZ := Lib.hid hsz
  have hix := fun k (hk : k < s.size) (W : World) => ThRef.idx_s s k hk W
  have HIX := Lib.hid hix
  clear hsz hix
  go_enter Tryd.func17, Tryd.ntmps17
  go_wp2
  go_loopg [3, 4] s.size (fun g vo vi wr => ∃ (k l : Nat) (A : Option Addr) (c : Nat) (xs : List Int), g = s.size - k ∧ k ≤ s.size ∧ vi = .int .i64 k ∧ vo = .slice A l c ∧ Hid (l = xs.length ∧ OwnI w.heap.size wr A c xs ∧ Below w.heap.size w wr ∧ xs ++ marks (s.data.toList.drop k) = marks s.data.toList ∧ xs.length ≤ k))
  case atStart =>
    refine ⟨0, 0, some ⟨w.heap.size, 0, none⟩, 0, [], by omega, by omega, rfl, rfl, Lib.hid ⟨rfl, own_empty w (Nat.le_refl _) _ _, (Below.refl _ _).alloc (Nat.le_refl _) _, rfl, by simp⟩⟩
  case round =>
    obtain ⟨k, l, A, c, xs, rfl, hk, rfl, rfl, HH⟩ := hrel
    by_cases hlt : k < s.size
    · have hx := HIX.out k hlt
      have hxg : s.data.toList[k]? = some s[k] := by rw [List.getElem?_eq_getElem (by have := HZ.out; omega)]; rfl
      generalize s[k] = x at hx hxg
      have hxb : x.toNat < 256 := x.toNat_lt
      have hm := marks_at _ k x hxg
      by_cases hmk : x = 114 ∨ x = 35
      · rw [if_pos hmk] at hm
        obtain ⟨f, mn, hfk, hfs, hmn, hmk1⟩ : ∃ (f : Nat) (mn : Bool), k + 1 ≤ f ∧ f ≤ s.size ∧ ((mn = true ∧ f = k + 2 ∧ ∃ h : k + 1 < s.size, s[k + 1].toNat = 45) ∨ (mn = false ∧ f = k + 1 ∧ (k + 1 = s.size ∨ ∃ h : k + 1 < s.size, s[k + 1].toNat ≠ 45))) ∧ mk1 (s.data.toList.drop (k + 1)) = mkD (s.data.toList.drop f) mn := by
          by_cases h1 : k + 1 < s.size
          · have hl1 : k + 1 < s.data.toList.length := by have := HZ.out; omega
            have hd1 : s.data.toList.drop (k + 1) = s[k + 1] :: s.data.toList.drop (k + 2) := by rw [List.drop_eq_getElem_cons hl1]; rfl
            by_cases h45 : s[k + 1].toNat = 45
            · refine ⟨k + 2, true, by omega, by omega, Or.inl ⟨rfl, rfl, h1, h45⟩, ?_⟩
              rw [hd1, show s[k + 1] = 45 from UInt8.toNat_inj.1 h45, mk1_minus]
            · refine ⟨k + 1, false, by omega, by omega, Or.inr ⟨rfl, rfl, Or.inr ⟨h1, h45⟩⟩, ?_⟩
              refine mk1_plain _ fun y r e => ?_
              rw [hd1] at e
              rw [← (List.cons.inj e).1]
              intro e2; apply h45; rw [e2]; rfl
          · refine ⟨k + 1, false, by omega, by omega, Or.inr ⟨rfl, rfl, Or.inl (by omega)⟩, ?_⟩
            refine mk1_plain _ fun y r e => ?_
            rw [List.drop_eq_nil_of_le (by have := HZ.out; omega)] at e
            cases e
        have hDJ : ∀ j, (s.data.toList.drop f)[j]? = s.data.toList[f + j]? := fun j => by rw [List.getElem?_drop]
        generalize s.data.toList.drop f = D at hmk1 hDJ
        rw [hmk1] at hm
        have HM := Lib.hid hm; have HDJ := Lib.hid hDJ; have HMN := Lib.hid hmn; have HMK := Lib.hid hmk
        clear hm hDJ hmn hmk1 hxg hmk
        rename World => wo
        go_upto_region 5 with fail
        go_cut [25] (fun v wx => v = .bool false ∧ wo = wx)
        case first =>
          rcases HMK.out with rfl | rfl
          all_goals
            clear HMK HM
            go_wp2_with fail
            go_meet
            exact ⟨rfl, rfl⟩
        case rest =>
        obtain ⟨rfl, rfl⟩ := hcut
        clear hx
        go_upto_region 7 with fail
        go_cut [37] (fun v wx => v = .bool mn ∧ wo = wx)
        case first =>
          rcases HMN.out with ⟨rfl, _, h1, h45⟩ | ⟨rfl, _, h1 | ⟨h1, h45⟩⟩
          · have e1 : decide ((k : Int) + 1 < (s.size : Int)) = true := decide_eq_true (by omega)
            have e2 : ((s[k + 1].toNat : Int) == 45) = true := by rw [h45]; rfl
            clear h45
            go_wp2_with fail
            go_meet
            exact ⟨rfl, rfl⟩
          · have e1 : decide ((k : Int) + 1 < (s.size : Int)) = false := decide_eq_false (by omega)
            clear h1
            go_wp2_with fail
            go_meet
            exact ⟨rfl, rfl⟩
          · have hb := s[k + 1].toNat_lt
            have e1 : decide ((k : Int) + 1 < (s.size : Int)) = true := decide_eq_true (by omega)
            have e2 : ((s[k + 1].toNat : Int) == 45) = false := by rw [beq_eq_false_iff_ne]; omega
            clear h45
            go_wp2_with fail
            go_meet
            exact ⟨rfl, rfl⟩
        case rest =>
        obtain ⟨rfl, rfl⟩ := hcut
        go_upto_if 37 with fail
        go_cut [6, 7] (fun va vm wx => va = .int .i64 f ∧ vm = .bool mn ∧ wo = wx)
        case first =>
          rcases HMN.out with ⟨rfl, rfl, _, _⟩ | ⟨rfl, rfl, _⟩
          all_goals
            go_wp2_with fail
            go_meet
            exact ⟨by go_num, rfl, rfl⟩
        case rest =>
        obtain ⟨rfl, rfl, rfl⟩ := hcut
        go_wp2_with fail
        go_loopg [5, 6] 6 (fun g vn va wx => ∃ (j nv : Nat), g = 6 - j ∧ f + j ≤ s.size ∧ vn = .int .i64 nv ∧ va = .int .i64 ((f + j : Nat) : Int) ∧ nv < 1000000 ∧ j ≤ 6 ∧ Hid (Dg D j nv) ∧ wo = wx)
        case atStart => exact ⟨0, 0, rfl, by omega, rfl, rfl, by omega, by omega, Lib.hid (Dg.zero D), rfl⟩
        case round =>
          obtain ⟨j, nv, rfl, hfj, rfl, rfl, hnv, hj6, HD, rfl⟩ := hrel
          obtain ⟨cB, hcB⟩ : ∃ cB : Bool, cB = if h : f + j < s.size then decide (j < 6) && dgB s[f + j] else false := ⟨_, rfl⟩
          have HC := Lib.hid hcB
          clear hcB
          go_upto_region 10 with fail
          go_cut [62] (fun v wx => v = .bool cB ∧ wo = wx)
          case first =>
            by_cases hin : f + j < s.size
            · have hb := s[f + j].toNat_lt
              have hc2 := HC.out
              rw [dif_pos hin] at hc2
              unfold dgB at hc2
              have e1 : decide ((f : Int) + (j : Int) < (s.size : Int)) = true := decide_eq_true (by omega)
              by_cases h6 : j < 6
              · have e2 : decide ((f : Int) + (j : Int) < (f : Int) + 6) = true := decide_eq_true (by omega)
                by_cases h48 : 48 ≤ s[f + j].toNat
                · have e3 : decide ((48 : Int) ≤ (s[f + j].toNat : Int)) = true := decide_eq_true (by omega)
                  by_cases h57 : s[f + j].toNat ≤ 57
                  · have e4 : decide ((s[f + j].toNat : Int) ≤ 57) = true := decide_eq_true (by omega)
                    have hc3 : cB = true := by rw [hc2]; simp [h6, h48, h57]
                    have HC3 := Lib.hid hc3
                    clear hc2 hc3 HC HM HMN HDJ
                    go_wp2_with fail
                    go_meet
                    exact ⟨by rw [HC3.out], rfl⟩
                  · have e4 : decide ((s[f + j].toNat : Int) ≤ 57) = false := decide_eq_false (by omega)
                    have hc3 : cB = false := by rw [hc2]; simp [h57]
                    have HC3 := Lib.hid hc3
                    clear hc2 hc3 HC HM HMN HDJ
                    go_wp2_with fail
                    go_meet
                    exact ⟨by rw [HC3.out], rfl⟩
                · have e3 : decide ((48 : Int) ≤ (s[f + j].toNat : Int)) = false := decide_eq_false (by omega)
                  have hc3 : cB = false := by rw [hc2]; simp [h48]
                  have HC3 := Lib.hid hc3
                  clear hc2 hc3 HC HM HMN HDJ
                  go_wp2_with fail
                  go_meet
                  exact ⟨by rw [HC3.out], rfl⟩
              · have e2 : decide ((f : Int) + (j : Int) < (f : Int) + 6) = false := decide_eq_false (by omega)
                have hc3 : cB = false := by rw [hc2]; simp [h6]
                have HC3 := Lib.hid hc3
                clear hc2 hc3 HC HM HMN HDJ
                go_wp2_with fail
                go_meet
                exact ⟨by rw [HC3.out], rfl⟩
            · have e1 : decide ((f : Int) + (j : Int) < (s.size : Int)) = false := decide_eq_false (by omega)
              have hc3 : cB = false := by rw [HC.out, dif_neg hin]
              have HC3 := Lib.hid hc3
              clear hc3 HC HM HMN HDJ
              go_wp2_with fail
              go_meet
              exact ⟨by rw [HC3.out], rfl⟩
          case rest =>
          obtain ⟨rfl, rfl⟩ := hcut
          cases cB with
          | true =>
            have hc2 := HC.out
            by_cases hin : f + j < s.size
            · rw [dif_pos hin] at hc2
              have hc4 := (Bool.and_eq_true _ _).mp hc2.symm
              have h6 : j < 6 := of_decide_eq_true hc4.1
              have hyg : D[j]? = some s[f + j] := by rw [HDJ.out, List.getElem?_eq_getElem (by have := HZ.out; omega)]; rfl
              have hnx := HD.out.next h6 _ hyg hc4.2
              have hdd := hc4.2
              unfold dgB at hdd
              simp only [Bool.and_eq_true, decide_eq_true_eq] at hdd
              clear hc2 hc4 hyg
              have HN := Lib.hid hnx
              obtain ⟨d1, d2⟩ := hdd
              clear hnx HC HM HMN HDJ
              go_wp2_with fail
              go_roundg (6 - (j + 1))
              case measure => omega
              case rel => exact ⟨j + 1, nv * 10 + (s[f + j].toNat - 48), rfl, by omega, by congr 1 <;> omega, by congr 1 <;> omega, HN.out.bnd, by omega, HN, rfl⟩
            · rw [dif_neg hin] at hc2
              exact absurd hc2 (by simp)
          | false =>
            have hst : j = 6 ∨ D[j]? = none ∨ ∃ y, D[j]? = some y ∧ dgB y = false := by
              have hc2 := HC.out
              by_cases hin : f + j < s.size
              · rw [dif_pos hin] at hc2
                by_cases h6 : j = 6
                · exact Or.inl h6
                · refine Or.inr (Or.inr ⟨s[f + j], by rw [HDJ.out, List.getElem?_eq_getElem (by have := HZ.out; omega)]; rfl, ?_⟩)
                  simpa [show j < 6 by omega] using hc2.symm
              · exact Or.inr (Or.inl (by rw [HDJ.out, List.getElem?_eq_none (by have := HZ.out; omega)]))
            obtain ⟨hv, hj0⟩ := HD.out.done hst
            rcases hj0 with ⟨rfl, hno⟩ | ⟨hj, hyes⟩
            · have hm2 := HM.out
              rw [mkD_none hno] at hm2
              have HM2 := Lib.hid hm2
              clear hm2 hst hv hno HC HMN HDJ HM
              go_wp2_with fail
              go_roundg (s.size - (k + 1))
              case measure => omega
              case rel =>
                obtain ⟨h1, h2, h3, h4, h5⟩ := HH.out
                exact ⟨k + 1, l, A, c, xs, rfl, by omega, by go_num, rfl, Lib.hid ⟨h1, h2, h3, by rw [← h4, HM2.out]; rfl, by omega⟩⟩
            · have hm2 := HM.out
              rw [mkD_some hyes, hv] at hm2
              have HM2 := Lib.hid hm2
              clear hm2 hst hv hyes HC HMN HDJ HM
              have hz5 : xs.length ≤ 1000000 := by have := HH.out.2.2.2.2; omega
              have HZ5 := Lib.hid hz5
              clear hz5
              cases mn with
              | true =>
                go_wp2_with (at_builtin; refine app_i rfl _ _ rfl A c l xs HH.out.1 rfl HH.out.2.1 HH.out.2.2.1.size (-(nv : Int)) rfl HZ5.out ?_; intro A' l' c' w' g1 g2 g3 g4; have G := Lib.hid (And.intro g1 (And.intro g2 (g3 _ HH.out.2.2.1))); clear g1 g2 g3 g4)
                go_roundg (s.size - (k + 1))
                case measure => omega
                case rel =>
                  obtain ⟨h1, h2, h3, h4, h5⟩ := HH.out
                  exact ⟨k + 1, l', A', c', xs ++ [-(nv : Int)], rfl, by omega, by go_num, rfl, Lib.hid ⟨G.out.2.1, G.out.1, G.out.2.2, by rw [← h4, HM2.out, List.append_assoc]; rfl, by simp; omega⟩⟩
              | false =>
                go_wp2_with (at_builtin; refine app_i rfl _ _ rfl A c l xs HH.out.1 rfl HH.out.2.1 HH.out.2.2.1.size (nv : Int) rfl HZ5.out ?_; intro A' l' c' w' g1 g2 g3 g4; have G := Lib.hid (And.intro g1 (And.intro g2 (g3 _ HH.out.2.2.1))); clear g1 g2 g3 g4)
                go_roundg (s.size - (k + 1))
                case measure => omega
                case rel =>
                  obtain ⟨h1, h2, h3, h4, h5⟩ := HH.out
                  exact ⟨k + 1, l', A', c', xs ++ [(nv : Int)], rfl, by omega, by go_num, rfl, Lib.hid ⟨G.out.2.1, G.out.1, G.out.2.2, by rw [← h4, HM2.out, List.append_assoc]; rfl, by simp; omega⟩⟩
      · rw [if_neg hmk, List.nil_append] at hm
        have e1 : ((x.toNat : Int) != 114) = true := by
          simp only [bne_iff_ne, ne_eq]; intro e; exact hmk (Or.inl (UInt8.toNat_inj.1 (by show x.toNat = 114; omega)))
        have e2 : ((x.toNat : Int) != 35) = true := by
          simp only [bne_iff_ne, ne_eq]; intro e; exact hmk (Or.inr (UInt8.toNat_inj.1 (by show x.toNat = 35; omega)))
        have HM := Lib.hid hm
        clear hm hmk hxg
        go_wp2
        go_roundg (s.size - (k + 1))
        case measure => omega
        case rel =>
          obtain ⟨h1, h2, h3, h4, h5⟩ := HH.out
          exact ⟨k + 1, l, A, c, xs, rfl, by omega, by go_num, rfl, Lib.hid ⟨h1, h2, h3, by rw [← HM.out]; exact h4, by omega⟩⟩
    · obtain rfl : k = s.size := by omega
      obtain ⟨h1, h2, h3, h4, h5⟩ := HH.out
      have hd : xs = marks s.data.toList := by
        rw [← h4, List.drop_eq_nil_of_le (by have := HZ.out; omega)]
        simp [marks]
      have HE := Lib.hid (And.intro h1 (And.intro h2 (And.intro h3 hd)))
      clear h1 h2 h3 h4 h5 hd
      go_wp2
      go_ret
      obtain ⟨h1, h2, h3, hd⟩ := HE.out
      exact ⟨A, c, by rw [← hd, ← h1]; rfl, by rw [← hd]; exact h2, h3⟩
end Go.Proofs.YthioplijcleioaaDoor.Tx
