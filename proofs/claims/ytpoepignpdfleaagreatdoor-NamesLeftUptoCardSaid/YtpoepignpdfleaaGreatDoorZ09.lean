/- DERIVED. NmIs, NmSm in one text. By an AI agent. -/
import Derived.Test.YtpoepignpdfleaaGreatDoorZ08
/- DERIVED. What a name is, as the program tells it. By an AI agent. -/
namespace Go.Proofs.YtpoepignpdfleaaGreatDoor.Nm
open Go Go.ChangeShapes Go.WideShapes Go.ChangeAt Go.RowKit Lx Args Pa Sh
set_option linter.unusedVariables false
set_option linter.unusedSimpArgs false
def natV (n : Nat) : Value := .int .i64 (n : Int)
set_option maxRecDepth 100000 in
theorem index_ (A : Option Addr) (c : Nat) (l : List Nat) (a : Nat) (w : World) (hA : Lies w A (l.map natV)) (hl : l.length ≤ 100) :
    Calls Tryz.prog 117 #[.slice A l.length c, .int .i64 (a : Int)] w fun e w' => ∃ r : Int, e = .returned (.int .i64 r) ∧ l.contains a = decide (0 ≤ r) ∧ Below w.heap.size w w' := by
  have HA := Lib.hid hA
  clear hA
  go_enter Tryz.func117, Tryz.ntmps117
  go_wp2_with fail
  go_loopw [8] (fun vi wr => ∃ i : Nat, i ≤ l.length ∧ vi = .int .i64 (i : Int) ∧ Hid (Below w.heap.size w wr) ∧ Hid (∀ j, j < i → l[j]? ≠ some a)) (fun vi _ => l.length - (intOf vi).toNat)
  case atStart => exact ⟨0, by omega, rfl, Lib.hid (Below.refl _ _), Lib.hid fun j hj => absurd hj (by omega)⟩
  case round =>
    obtain ⟨i, hi, rfl, HH, HQ⟩ := hrel
    by_cases hlt : i < l.length
    · obtain ⟨p, hp⟩ : ∃ p, l[i]? = some p := ⟨_, List.getElem?_eq_getElem hlt⟩
      have f1 : (l.map natV)[i]? = some (.int .i64 (p : Int)) := by rw [List.getElem?_map, hp]; rfl
      obtain ⟨b, o, rfl, _, hc1⟩ := (HA.out.below HH.out).at_ f1
      have e1 := hc1 _ _ f1
      by_cases hpa : a = p
      · subst hpa
        have HR := Lib.hid (show l.contains a = true from List.contains_iff_mem.2 (List.mem_of_getElem? hp))
        clear hc1 f1 hp
        go_wp2_with fail
        go_ret
        exact ⟨_, rfl, by rw [HR.out]; simp, HH.out⟩
      · have HN := Lib.hid (show ∀ j, j < i + 1 → l[j]? ≠ some a from fun j hj => by
          by_cases h : j < i
          · exact HQ.out j h
          · obtain rfl : j = i := by omega
            rw [hp]; simp; omega)
        have hne : ((a : Int) == (p : Int)) = false := by simp; omega
        clear hc1 f1 hp hpa
        go_wp2_with fail
        go_roundw
        case rel => exact ⟨i + 1, by omega, by go_num, HH, HN⟩
        case measure => simp [intOf]; omega
    · have hr : l.contains a = false := by
        cases h : l.contains a with
        | false => rfl
        | true =>
          obtain ⟨j, hj⟩ := List.getElem?_of_mem (List.contains_iff_mem.1 h)
          have hjl := (List.getElem?_eq_some_iff.1 hj).1
          exact absurd hj (HQ.out j (by omega))
      have HR := Lib.hid hr
      clear hr
      go_wp2_with fail
      go_ret
      exact ⟨_, rfl, by rw [HR.out]; simp, HH.out⟩
theorem contains_ (A : Option Addr) (c : Nat) (l : List Nat) (a : Nat) (w : World) (hA : Lies w A (l.map natV)) (hl : l.length ≤ 100) :
    Calls Tryz.prog 103 #[.slice A l.length c, .int .i64 (a : Int)] w fun e w' => e = .returned (.bool (l.contains a)) ∧ Below w.heap.size w w' := by
  have HI := Lib.hid (index_ A c l a w hA hl)
  clear hA
  generalize l.contains a = res at HI ⊢
  go_enter Tryz.func103, Tryz.ntmps103
  go_wp2_with fail
  refine HI.out.mono ?_
  rintro e w1 ⟨r, rfl, hr, hb⟩
  subst hr
  have HB := Lib.hid hb
  clear hb
  go_wp2_with fail
  go_ret
  exact ⟨rfl, HB.out⟩
/-- A call that only tells a bool. -/
def TellP (w : World) (r : Bool) (e : Ending) (w' : World) : Prop := e = .returned (.bool r) ∧ Below w.heap.size w w'
/-- The known map, where the checker has it. -/
def KnP (w : World) (g : Nat) (kn : Kn) : Prop := ∃ kb m, w.cell? ⟨g, 3, none⟩ = some (.map (some kb)) ∧ MpK w kb m kn
theorem KnP.below {w w' : World} {g : Nat} {kn : Kn} (h : KnP w g kn) (hb : Below w.heap.size w w') : KnP w' g kn := by
  obtain ⟨kb, m, h1, h2⟩ := h
  exact ⟨kb, m, (hb.cell (World.block_lt_of_cell? w _ h1)).trans h1, h2.upd (Upd.of_below hb fun _ => False) id⟩
set_option maxRecDepth 100000 in
theorem is_ (w : World) (g : Nat) (kn : Kn) (hk : KnP w g kn) (s : Bs) (hs : s.length ≤ maxLen) (A : Option Addr) (c : Nat) (l : List Nat) (hA : Lies w A (l.map natV)) (hl : l.length ≤ 100) :
    Calls Tryz.prog 86 #[.pointer (some ⟨g, 0, none⟩), .string ⟨s.toArray⟩, .slice A l.length c] w (TellP w (isB kn s l)) := by
  obtain ⟨kb, m, h3, hm⟩ := hk
  have hrun := hm.look (s := s) hs
  have hg : g < w.heap.size := World.block_lt_of_cell? w _ h3
  obtain ⟨w1, hw1⟩ : ∃ w1, w.alloc (.cells #[.int .i64 ((kAt kn s).1 : Int), .int .i64 ((kAt kn s).2 : Int)] 58) = w1 := ⟨_, rfl⟩
  have hb1 : Below w.heap.size w w1 := by rw [← hw1]; exact (Below.refl _ _).alloc (Nat.le_refl _) _
  have hX1 : Blk w1 w.heap.size 58 #[.int .i64 ((kAt kn s).1 : Int), .int .i64 ((kAt kn s).2 : Int)] := by rw [← hw1]; exact Blk.new _ _ _
  have HC := Lib.hid (contains_ A c l (kAt kn s).1 w1 (hA.below hb1) hl)
  have HB1 := Lib.hid hb1; have HX1 := Lib.hid hX1; have HW1 := Lib.hid hw1
  have hres : isB kn s l = ((kn s).isSome && l.contains (kAt kn s).1) := by
    unfold isB kAt
    cases kn s <;> rfl
  rw [hres]
  clear hA hm hw1 hb1 hX1 hres
  generalize (kn s).isSome = isS at *
  generalize kAt kn s = ka at *
  generalize l.contains ka.1 = res at *
  go_enter Tryz.func86, Tryz.ntmps86
  cases isS with
  | false =>
    go_wp2_with fail
    go_ret
    rw [HW1.out]
    exact ⟨rfl, HB1.out⟩
  | true =>
    have e0 := HX1.out.cell 0
    go_wp2_with fail
    rw [HW1.out]
    refine HC.out.mono ?_
    rintro e w2 ⟨rfl, hb2⟩
    have HB2 := Lib.hid (HB1.out.trans (hb2.mono HB1.out.size))
    clear hb2
    go_wp2_with fail
    go_ret
    exact ⟨rfl, HB2.out⟩
end Go.Proofs.YtpoepignpdfleaaGreatDoor.Nm
/- DERIVED. The checker's small functions. By an AI agent. -/
namespace Go.Proofs.YtpoepignpdfleaaGreatDoor.Nm
open Go Go.ChangeShapes Go.WideShapes Go.ChangeAt Go.RowKit Lx Args Pa Sh
set_option linter.unusedVariables false
set_option linter.unusedSimpArgs false
theorem sorts_box (w : World) (l : List Nat) : ∃ w1, w.alloc (.cells (l.map natV).toArray 56) = w1 ∧ Below w.heap.size w w1 ∧ Lies w1 (some ⟨w.heap.size, 0, none⟩) (l.map natV) :=
  ⟨_, rfl, (Below.refl _ _).alloc (Nat.le_refl _) _, lies_full _ _ _⟩
theorem TellP.trans {w w1 w' : World} {r : Bool} {e : Ending} (hb : Below w.heap.size w w1) (h : TellP w1 r e w') : TellP w r e w' := ⟨h.1, hb.trans (h.2.mono hb.size)⟩
theorem is_all {kn : Kn} (h : Sorts kn) (s : Bs) : isB kn s [0, 1, 2, 3] = namedB kn s := by
  unfold isB namedB
  cases hk : kn s with
  | none => rfl
  | some m =>
    have := h s m hk
    simp
    omega
theorem is_word {kn : Kn} (h : Sorts kn) (s : Bs) : isB kn s [0, 2, 3] = wordB kn s := by
  unfold isB wordB
  cases hk : kn s with
  | none => rfl
  | some m =>
    have := h s m hk
    have h2 : (m.1 = 0 ∨ m.1 = 2 ∨ m.1 = 3) ↔ ¬ m.1 = 1 := by omega
    simp [h2]
theorem KnP.sorts {w : World} {g : Nat} {kn : Kn} (h : KnP w g kn) : Sorts kn := fun s m hm => by
  obtain ⟨_, _, _, hp⟩ := h; exact (hp.sorts s m hm).1
set_option maxRecDepth 100000 in
theorem isNamed (w : World) (g : Nat) (kn : Kn) (hk : KnP w g kn) (s : Bs) (hs : s.length ≤ maxLen) :
    Calls Tryz.prog 84 #[.pointer (some ⟨g, 0, none⟩), .string ⟨s.toArray⟩] w (TellP w (namedB kn s)) := by
  obtain ⟨w1, hw1, hb1, hL1⟩ := sorts_box w [0, 1, 2, 3]
  have HC := Lib.hid (is_ w1 g kn (hk.below hb1) s hs _ 4 [0, 1, 2, 3] hL1 (by decide))
  rw [is_all hk.sorts] at HC
  have HB1 := Lib.hid hb1; have HW1 := Lib.hid hw1
  clear hk hb1 hL1 hw1
  generalize namedB kn s = res at *
  go_enter Tryz.func84, Tryz.ntmps84
  go_wp2_with fail
  rw [show w.alloc (.cells #[.int .i64 0, .int .i64 1, .int .i64 2, .int .i64 3] 56) = w1 from HW1.out]
  refine (show Calls Tryz.prog 86 #[.pointer (some ⟨g, 0, none⟩), .string ⟨s.toArray⟩, .slice (some ⟨w.heap.size, 0, none⟩) 4 4] w1 _ from HC.out).mono ?_
  rintro e w2 ⟨rfl, hb2⟩
  have HB2 := Lib.hid (HB1.out.trans (hb2.mono HB1.out.size))
  clear hb2
  go_wp2_with fail
  go_ret
  exact ⟨rfl, HB2.out⟩
set_option maxRecDepth 100000 in
theorem isWord (w : World) (g : Nat) (kn : Kn) (hk : KnP w g kn) (s : Bs) (hs : s.length ≤ maxLen) :
    Calls Tryz.prog 89 #[.pointer (some ⟨g, 0, none⟩), .string ⟨s.toArray⟩] w (TellP w (wordB kn s)) := by
  obtain ⟨w1, hw1, hb1, hL1⟩ := sorts_box w [0, 2, 3]
  have HC := Lib.hid (is_ w1 g kn (hk.below hb1) s hs _ 3 [0, 2, 3] hL1 (by decide))
  rw [is_word hk.sorts] at HC
  have HB1 := Lib.hid hb1; have HW1 := Lib.hid hw1
  clear hk hb1 hL1 hw1
  generalize wordB kn s = res at *
  go_enter Tryz.func89, Tryz.ntmps89
  go_wp2_with fail
  rw [show w.alloc (.cells #[.int .i64 0, .int .i64 2, .int .i64 3] 56) = w1 from HW1.out]
  refine (show Calls Tryz.prog 86 #[.pointer (some ⟨g, 0, none⟩), .string ⟨s.toArray⟩, .slice (some ⟨w.heap.size, 0, none⟩) 3 3] w1 _ from HC.out).mono ?_
  rintro e w2 ⟨rfl, hb2⟩
  have HB2 := Lib.hid (HB1.out.trans (hb2.mono HB1.out.size))
  clear hb2
  go_wp2_with fail
  go_ret
  exact ⟨rfl, HB2.out⟩
theorem fMn1 (a p : Int) (w : World) : (Instr.field 58 (.agg #[.int .i64 a, .int .i64 p]) 1).run Tryz.prog w = .ok (.int .i64 p) w := by kernel_rfl
attribute [local go_sem] fMn1
theorem call_is (kn : Kn) (s : Bs) (p : Nat) : callB kn s p = (isB kn s [1] && decide ((kAt kn s).2 = p)) := by
  unfold callB isB kAt
  cases kn s with
  | none => rfl
  | some m => simp
set_option maxRecDepth 100000 in
theorem isCalled (w : World) (g : Nat) (kn : Kn) (hk : KnP w g kn) (s : Bs) (hs : s.length ≤ maxLen) (p : Nat) :
    Calls Tryz.prog 105 #[.pointer (some ⟨g, 0, none⟩), .string ⟨s.toArray⟩, .int .i64 (p : Int)] w (TellP w (callB kn s p)) := by
  obtain ⟨w1, hw1, hb1, hL1⟩ := sorts_box w [1]
  have HC := Lib.hid (is_ w1 g kn (hk.below hb1) s hs _ 1 [1] hL1 (by decide))
  have HK := Lib.hid (hk.below hb1)
  have HB1 := Lib.hid hb1; have HW1 := Lib.hid hw1
  rw [call_is]
  clear hk hb1 hL1 hw1
  generalize isB kn s [1] = res at *
  go_enter Tryz.func105, Tryz.ntmps105
  go_wp2_with fail
  rw [show w.alloc (.cells #[.int .i64 1] 56) = w1 from HW1.out]
  refine (show Calls Tryz.prog 86 #[.pointer (some ⟨g, 0, none⟩), .string ⟨s.toArray⟩, .slice (some ⟨w.heap.size, 0, none⟩) 1 1] w1 _ from HC.out).mono ?_
  rintro e w2 ⟨rfl, hb2⟩
  have HB2 := Lib.hid (HB1.out.trans (hb2.mono HB1.out.size))
  obtain ⟨kb, m, h3, hm⟩ := HK.out.below hb2
  clear hb2
  cases res with
  | false =>
    clear h3 hm
    go_wp2_with fail
    go_ret
    exact ⟨rfl, HB2.out⟩
  | true =>
    have hrun := hm.look1 (s := s) hs
    clear hm
    generalize kAt kn s = ka at *
    obtain ⟨r2, hr2⟩ : ∃ r2 : Bool, decide (ka.2 = p) = r2 := ⟨_, rfl⟩
    have hq : ((ka.2 : Int) == (p : Int)) = r2 := by
      rw [← hr2]
      cases h : decide (ka.2 = p) <;> simp at h ⊢ <;> omega
    have HR2 := Lib.hid hr2
    clear hr2
    go_wp2_with fail
    go_ret
    exact ⟨by rw [HR2.out]; rfl, HB2.out⟩
theorem has_ (w : World) (b n : Nat) (f : Bs → Bool) (h : MpS w b n f) (s : Bs) (hs : s.length ≤ maxLen) :
    Calls Tryz.prog 35 #[.map (some b), .string ⟨s.toArray⟩] w (TellP w (f s)) := by
  have hrun := h.look (s := s) hs
  clear h
  generalize f s = r at *
  go_enter Tryz.func35, Tryz.ntmps35
  go_wp2_with fail
  go_ret
  exact ⟨rfl, (Below.refl _ _).alloc (Nat.le_refl _) _⟩
/-- Behind set.add. -/
def AddP (w : World) (b n : Nat) (f : Bs → Bool) (s : Bs) (e : Ending) (w' : World) : Prop := e = .returned (.bool (!f s)) ∧ MpS w' b (n + 1) (fun t => f t || t == s) ∧ Upd (fun k => k = b) w w'
set_option maxRecDepth 100000 in
theorem add_ (w : World) (b n : Nat) (f : Bs → Bool) (h : MpS w b n f) (hn : n < maxLen) (s : Bs) (hs : s.length ≤ maxLen) :
    Calls Tryz.prog 23 #[.map (some b), .string ⟨s.toArray⟩] w (AddP w b n f s) := by
  have HS := Lib.hid (has_ w b n f h s hs)
  have HM := Lib.hid h
  clear h
  go_enter Tryz.func23, Tryz.ntmps23
  go_wp2_with fail
  refine HS.out.mono ?_
  rintro e w1 ⟨rfl, hb1⟩
  obtain ⟨w2, hrun, h2, ht⟩ := (HM.out.upd (Upd.of_below hb1 fun _ => False) id).put (s := s) hs hn
  have H2 := Lib.hid h2
  have HU := Lib.hid ((Upd.of_below hb1 (fun k => k = b)).trans (turned_upd (X := fun k => k = b) ht rfl))
  clear hb1 h2 ht
  obtain ⟨r, hr⟩ : ∃ r, f s = r := ⟨_, rfl⟩
  have HR := Lib.hid hr
  rw [hr]
  clear hr
  go_wp2_with fail
  go_ret
  exact ⟨by rw [HR.out]; rfl, H2.out, HU.out⟩
/-- Given up with, at a place. -/
abbrev panW (a : Int) : Ending := .panicked [{ v := .iface 85 (.agg #[.int .i64 a]), recovered := false }]
/-- A refusal, or nothing. -/
def RefP (w : World) (a : Int) (b : Bool) (e : Ending) (w' : World) : Prop := e = (if b = true then panW a else .returned (.tuple #[])) ∧ Below w.heap.size w w'
theorem refuse (w : World) (k a : Int) (s : Bs) (n : Nat) (A : Option Addr) (la cA : Nat) (B : Option Addr) (lb cB : Nat) (b : Bool) :
    Calls Tryz.prog 83 #[nzA k a s n A la cA B lb cB, .bool b] w (RefP w a b) := by
  obtain ⟨w1, hw1, hb1, hX1, _⟩ := a_box w (nB k a s n A la cA B lb cB)
  obtain ⟨⟨e0, e1, e2, e3, e4, e5⟩, z0, z1, z2, z3, z4, z5⟩ := Blk.c6 hX1
  have HB1 := Lib.hid hb1; have HW1 := Lib.hid hw1
  clear hw1 hb1 hX1
  go_enter Tryz.func83, Tryz.ntmps83
  cases b with
  | false =>
    go_wp2_with fail
    rw [HW1.out]
    first | go_end0 | skip
    all_goals first | exact ⟨rfl, HB1.out⟩ | exact bodyPost_ret (results_none rfl _ _ _) rfl ⟨rfl, HB1.out⟩
  | true =>
    go_wp2_with fail
    rw [HW1.out]
    exact ⟨rfl, rfl, HB1.out⟩
theorem lies_add {w : World} {A : Option Addr} {xs : List Value} (h : Lies w A xs) (m : Nat) : Lies w (A.map fun a => a.add m) (xs.drop m) := fun j u hj => by
  rw [List.getElem?_drop] at hj
  obtain ⟨a, rfl, hc⟩ := h _ u hj
  exact ⟨_, rfl, by rw [add_add]; exact hc⟩
theorem lies_0 {w : World} {A : Option Addr} {xs : List Value} (h : Lies w A xs) : Lies w (A.map fun a => a.add 0) xs := lies_add h 0
/-- Behind cut: so many parts, and those behind. -/
def CutP (w : World) (A : Option Addr) (n k : Nat) (e : Ending) (w' : World) : Prop := ∃ A1 c1 A2 c2, e = .returned (.tuple #[.slice A1 (min k n) c1, .slice A2 (n - k) c2]) ∧ (∀ W xs, Lies W A xs → Lies W A1 xs) ∧ (0 < n - k → ∀ W xs, Lies W A xs → Lies W A2 (xs.drop (k * 6))) ∧ Below w.heap.size w w'
set_option maxRecDepth 100000 in
set_option maxHeartbeats 1000000 in
theorem cut_ (w : World) (A : Option Addr) (n c k : Nat) (hn : n ≤ c) (hc : c ≤ maxLen) (hk : k ≤ 2) :
    Calls Tryz.prog 87 #[.slice A n c, .int .i64 (k : Int)] w (CutP w A n k) := by
  have hcm : c ≤ 9223372036854775807 := hc
  rcases Nat.lt_or_ge n k with hlt | hge
  · have h1 : (n : Int) < (k : Int) := by omega
    have h2 : (0 : Int) ≤ (n : Int) := by omega
    have h3 : (n : Int) ≤ (c : Int) := by omega
    have hm : min k n = n := by omega
    have hd : n - k = 0 := by omega
    go_enter Tryz.func87, Tryz.ntmps87
    go_wp2_with fail
    go_region
    go_wp2_with fail
    all_goals (
      go_ret2
      unfold CutP
      rw [hm, hd]
      exact ⟨_, _, _, _, rfl, fun _ _ h => h, fun h => absurd h (Nat.lt_irrefl _), Below.drew (Below.refl _ _)⟩)
  · have h1 : ¬ (n : Int) < (k : Int) := by omega
    have h2 : (0 : Int) ≤ (k : Int) := by omega
    have h3 : (k : Int) ≤ (c : Int) := by omega
    have h4 : (k : Int) ≤ (n : Int) := by omega
    have hm : min k n = k := by omega
    go_enter Tryz.func87, Tryz.ntmps87
    go_wp2_with fail
    go_region
    go_wp2_with fail
    all_goals (
      go_ret2
      unfold CutP
      rw [hm]
      refine ⟨_, _, _, _, rfl, fun _ _ h => ?_, fun hd W xs hL => ?_, Below.drew (Below.refl _ _)⟩
      · first | exact h | exact lies_0 h | (split <;> first | exact h | exact lies_0 h)
      · first | exact lies_add hL (k * 6) | (exfalso; omega))
end Go.Proofs.YtpoepignpdfleaaGreatDoor.Nm
