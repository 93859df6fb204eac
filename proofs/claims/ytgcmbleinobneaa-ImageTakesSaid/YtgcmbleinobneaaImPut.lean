/- DERIVED. Contracts of the reference's four, list, Put. By an AI agent. -/
import Derived.Test.YtgcmbleinobneaaImRef
import Derived.Deep.AppendLies
import Derived.Deep.DeepCutAuto
import Derived.Laws.BitsAllLaws
import Derived.Lib.AppendStr
import Derived.Deep.RegionHeld3
namespace Go.Proofs.Ytgcmbleinobneaa.ImRef
open Go.ChangeShapes Go.WideShapes Go.ChangeAt Go.RowKit Args
set_option linter.unusedVariables false
theorem infoB : (Try.prog.info? 5).map (fun i => (i.zero, i.size, i.bytes)) = some (some (.int .u8 0), 1, 1) := by kernel_rfl
def bvals (l : List Int) : List Value := l.map (Value.int .u8)
/-- A row of bytes of the call's own, from block 'base' on. -/
def OwnB (base : Nat) (w : World) (A : Option Addr) (c l : Nat) (xs : List Int) : Prop := l = xs.length ∧ w.ownsRow base 5 1 (.slice A l c) l (bvals xs)
/-- What lies below 'base' stays. -/
def Others (w w' : World) : Prop := ∀ (g : Nat) (cs : Array Value) (t : TypeId) (fr : Nat × Nat), t ≠ 5 → w.heap[g]? = some (.cells cs t fr) → w'.heap[g]? = some (.cells cs t fr)
structure Grow (base : Nat) (w w' : World) : Prop where
  le : w.heap.size ≤ w'.heap.size
  low : ∀ B w0, B ≤ base → Below B w0 w → Below B w0 w'
  oth : Others w w'
theorem Grow.refl (base : Nat) (w : World) : Grow base w w := ⟨Nat.le_refl _, fun _ _ _ h => h, fun _ _ _ _ _ h => h⟩
theorem Grow.trans {base : Nat} {w w1 w2 : World} (h : Grow base w w1) (h2 : Grow base w1 w2) : Grow base w w2 := ⟨Nat.le_trans h.1 h2.1, fun B w0 hB hb => h2.2 B w0 hB (h.2 B w0 hB hb), fun g cs t fr ht hg => h2.3 g cs t fr ht (h.3 g cs t fr ht hg)⟩
theorem others_grown {w w' : World} {row : Option Nat} (hg : w.grownBy w' row) (hr : ∀ (g : Nat) (cs : Array Value) (t : TypeId) (fr : Nat × Nat), t ≠ 5 → w.heap[g]? = some (.cells cs t fr) → some g ≠ row) : Others w w' := fun g cs t fr ht h => by
  rw [hg.block g (Array.getElem?_eq_some_iff.1 h).1 (hr g cs t fr ht h)]; exact h
theorem Others.alloc {w w' : World} (h : Others w w') (o : Obj) : Others w (w'.alloc o) := fun g cs t fr ht hg => by
  have h1 := h g cs t fr ht hg
  rw [Below.heap_alloc w' o g (Array.getElem?_eq_some_iff.1 h1).1]; exact h1
theorem Others.of_alloc {w w' : World} {o : Obj} (h : Others (w.alloc o) w') : Others w w' := fun g cs t fr ht hg =>
  h g cs t fr ht (by rw [Below.heap_alloc w o g (Array.getElem?_eq_some_iff.1 hg).1]; exact hg)
theorem OwnB.block {base : Nat} {w : World} {A : Option Addr} {c l : Nat} {xs : List Int} (h : OwnB base w A c l xs) : ∀ q, (Value.slice A l c).ownBlock = some q → base ≤ q := fun q hq => by
  rcases h.2.2 with ⟨e, _⟩ | ⟨g, cap, cur, e, hb, _⟩
  · rw [e] at hq; simp [Value.ownBlock] at hq
  · rw [e] at hq; simp [Value.ownBlock] at hq
    omega
theorem OwnB.other {base : Nat} {w : World} {A : Option Addr} {c l : Nat} {xs : List Int} (h : OwnB base w A c l xs) : ∀ (g : Nat) (cs : Array Value) (t : TypeId) (fr : Nat × Nat), t ≠ 5 → w.heap[g]? = some (.cells cs t fr) → some g ≠ (Value.slice A l c).ownBlock := fun g cs t fr ht hc => by
  rcases h.2.2 with ⟨e, _⟩ | ⟨g', cap, cur, e, hb, hh, _⟩
  · rw [e]; simp [Value.ownBlock]
  · rw [e]
    intro he
    obtain rfl : g = g' := by simpa [Value.ownBlock] using he
    rw [hh] at hc
    injection hc with hc
    injection hc with _ hc
    exact ht hc.symm
theorem OwnB.alloc {base : Nat} {w : World} {A : Option Addr} {c l : Nat} {xs : List Int} (h : OwnB base w A c l xs) (o : Obj) : OwnB base (w.alloc o) A c l xs := ⟨h.1, World.ownsRow.alloc h.2 o⟩
set_option maxHeartbeats 400000 in
/-- Bytes that lie in a fresh block are appended to such a row. -/
theorem app_b {ops : Array Oper} {rest : List Oper} {o : Oper} {a : Act} {Q : Exit → Act → World → Prop} {w : World} (hgd : o.guard = none) (s x : Operand)
    (ho : o.op = .call { callee := .builtin .append, args := #[s, x], argTypes := #[28, 28] })
    (A : Option Addr) (c l : Nat) (xs : List Int) (hs : a.eval s = .slice A l c) {base : Nat} (hown : OwnB base w A c l xs) (hB : base ≤ w.heap.size) (ys : List Int) (hy : 0 < ys.length)
    (hx : a.eval x = .slice (some ⟨w.heap.size, 0, none⟩) ys.length ys.length) (hk : xs.length + ys.length ≤ 140737488351232)
    (h : ∀ A' c' l' w', OwnB base w' A' c' l' (xs ++ ys) → Grow base w w' → wpList Try.prog ops Q rest (a.put o.dst (.slice A' l' c')) w') :
    wpList Try.prog ops Q (o :: rest) a (w.alloc (.cells (bvals ys).toArray 5)) := by
  obtain ⟨rfl, hown'⟩ := id hown
  obtain ⟨i0, hi, hz0, hz1, hz2⟩ := info_parts infoB
  refine wpList_append_own _ hgd s x 28 ho base 5 i0 (.int .u8 0) 1 1 Try.underlying28 hi hz0 hz1 hz2 rfl (by decide) (.slice A xs.length c) xs.length (bvals xs) hs (World.ownsRow.alloc hown' _) ⟨w.heap.size, 0, none⟩ ys.length ys.length (bvals ys) hx (by simp [bvals]) ?_ ?_ (by unfold maxLen; omega) (by omega) (by simp; omega) ?_
  · intro j u hj
    rw [Args.add_plain, Nat.zero_add, World.cell?_alloc_at _ _ _ _ rfl]
    simpa using hj
  · intro u hu
    simp [bvals] at hu
    obtain ⟨z, _, rfl⟩ := hu
    rfl
  · intro v' w' h1 h2 _
    obtain ⟨g, cap, e, _, _⟩ := World.ownsRow.form h1 (by omega)
    subst e
    refine h _ _ _ w' ⟨(List.length_append).symm, by rw [show bvals (xs ++ ys) = bvals xs ++ bvals ys by simp [bvals]]; exact h1⟩ ⟨by have := h2.size; simp at this; omega, fun B w0 hB' hb => ?_, (others_grown h2 (hown.alloc _).other).of_alloc⟩
    exact (hb.alloc (by omega) _).grown h2 (by simp; omega) (fun q hq => by have := hown.block q hq; omega)
def fourT (k : Nat) (n : Int) : List Int := (List.range k).map fun i => n / 256 ^ i % 256
theorem fourT_succ (k : Nat) (n : Int) : fourT (k + 1) n = fourT k n ++ [n / 256 ^ k % 256] := by unfold fourT; rw [List.range_succ, List.map_append]; rfl
theorem div_next (n : Int) (k : Nat) : n / 256 ^ k / 256 = n / 256 ^ (k + 1) := by
  rw [Int.ediv_ediv_of_nonneg (by exact Int.pow_nonneg (by decide)), ← Int.pow_succ]
set_option maxHeartbeats 1000000 in
theorem four (base : Nat) (A : Option Addr) (c l : Nat) (xs : List Int) (n : Int) (h0 : 0 ≤ n) (hn : n ≤ 9223372036854775807) (w : World) (hB : base ≤ w.heap.size) (hown : OwnB base w A c l xs) (hx : xs.length ≤ 100000000) :
    Calls Try.prog 22 #[.slice A l c, .int .i64 n] w fun e w' => ∃ A' c' l', e = .returned (.slice A' l' c') ∧ OwnB base w' A' c' l' (xs ++ fourT 4 n) ∧ Grow base w w' := by
  have HO := Lib.hid hown
  clear hown
  go_enter Try.func22, Try.ntmps22
  go_wp2_with fail
  go_loopw [0, 1, 5] (fun vb vn vi wr => ∃ (k : Nat) (m : Int) (A' : Option Addr) (c' l' : Nat), k ≤ 4 ∧ vb = .slice A' l' c' ∧ vi = .int .i64 k ∧ vn = .int .i64 m ∧ 0 ≤ m ∧ m ≤ 9223372036854775807 ∧ Hid (m = n / 256 ^ k ∧ OwnB base wr A' c' l' (xs ++ fourT k n) ∧ Grow base w wr)) (fun _ _ vi _ => 4 - (intOf vi).toNat)
  case atStart => exact ⟨0, n, A, c, l, by omega, rfl, rfl, rfl, h0, hn, Lib.hid ⟨by simp, by simpa [fourT] using HO.out, Grow.refl _ _⟩⟩
  case round =>
    obtain ⟨k, m, A', c', l', hk, rfl, rfl, rfl, hm0, hm, HH⟩ := hrel
    by_cases hlt : k < 4
    · have hln : (xs ++ fourT k n).length + [m % 256].length ≤ 140737488351232 := by simp [fourT]; omega
      have HLN := Lib.hid hln
      clear hln
      go_wp2_with (at_builtin; refine app_b rfl _ _ rfl A' c' l' (xs ++ fourT k n) rfl HH.out.2.1 (Nat.le_trans hB HH.out.2.2.1) [m % 256] (Nat.succ_pos _) rfl HLN.out ?_; intro A2 c2 l2 w' h1 h2; have HN1 := Lib.hid h1; have HN2 := Lib.hid h2; clear h1 h2)
      go_roundw
      case rel =>
        have hf : xs ++ fourT k n ++ [m % 256] = xs ++ fourT (k + 1) n := by rw [fourT_succ, List.append_assoc, HH.out.1]
        have hd : m / 256 = n / 256 ^ (k + 1) := by rw [HH.out.1, div_next]
        exact ⟨k + 1, m / 256, A2, c2, l2, by omega, rfl, by go_num, rfl, by omega, by omega, Lib.hid ⟨hd, by rw [← hf]; exact HN1.out, HH.out.2.2.trans HN2.out⟩⟩
      case measure => simp [intOf]; omega
    · have h4 : k = 4 := by omega
      subst h4
      go_wp2_with fail
      go_ret
      exact ⟨_, _, _, rfl, HH.out.2.1, HH.out.2.2⟩
theorem Grow.below {base : Nat} {w w' : World} (h : Grow base w w') : Below base w w' := h.2 base w (Nat.le_refl _) (Below.refl _ _)
theorem Grow.cell {base : Nat} {w w' : World} (h : Grow base w w') {p : Addr} (hp : p.block < base) : w'.cell? p = w.cell? p := h.below.cell hp
def sbytes (s : ByteArray) : List Int := s.data.toList.map fun b => (b.toNat : Int)
theorem strCells_eq (s : ByteArray) : Lib.strCells s = bvals (sbytes s) := by unfold Lib.strCells bvals sbytes; rw [List.map_map]; rfl
theorem sbytes_len (s : ByteArray) : (sbytes s).length = s.size := by unfold sbytes; simp
set_option maxHeartbeats 400000 in
/-- The same at a step of a region that draws its order. -/
theorem step_b {ops : Array Oper} {o : Oper} {a : Act} {K : Act → World → Prop} {Q : Exit → Act → World → Prop} {E : Prop} {W : World} (hgd : o.guard = none) (s x : Operand)
    (ho : o.op = .call { callee := .builtin .append, args := #[s, x], argTypes := #[28, 28] })
    (A : Option Addr) (c l : Nat) (xs : List Int) (hs : a.eval s = .slice A l c) {base : Nat} (hown : OwnB base W A c l xs) (hB : base ≤ W.heap.size) (ys : List Int) (hy : 0 < ys.length) (ad : Addr) (m c2 : Nat)
    (hx : a.eval x = .slice (some ad) m c2) (hm : m = ys.length) (hnews : ∀ j u, (bvals ys)[j]? = some u → W.cell? (ad.add j) = some u) (hk : xs.length + ys.length ≤ 140737488351232)
    (h : ∀ A' c' l' w', OwnB base w' A' c' l' (xs ++ ys) → Grow base W w' → K (a.put o.dst (.slice A' l' c')) w') :
    if Region.wanted o (yielded ops a.tmps) = true then Oper.wp Try.prog o a W K Q else E := by
  obtain ⟨rfl, hown'⟩ := id hown
  subst hm
  obtain ⟨i0, hi, hz0, hz1, hz2⟩ := info_parts infoB
  have hw : Region.wanted o (yielded ops a.tmps) = true := by simp [Region.wanted, hgd]
  rw [if_pos hw]
  refine wp_append_own _ s x 28 ho base 5 i0 (.int .u8 0) 1 1 Try.underlying28 hi hz0 hz1 hz2 rfl (by decide) (.slice A xs.length c) xs.length (bvals xs) hs hown' ad ys.length c2 (bvals ys) hx (by simp [bvals]) hnews ?_ (by unfold maxLen; omega) (by omega) hB ?_
  · intro u hu
    simp [bvals] at hu
    obtain ⟨z, _, rfl⟩ := hu
    rfl
  · intro v' w' h1 h2 _
    obtain ⟨g, cap, e, _, _⟩ := World.ownsRow.form h1 (by omega)
    subst e
    refine h _ _ _ w' ⟨(List.length_append).symm, by rw [show bvals (xs ++ ys) = bvals xs ++ bvals ys by simp [bvals]]; exact h1⟩ ⟨h2.size, fun B w0 hB' hb => ?_, others_grown h2 hown.other⟩
    exact hb.grown h2 (by omega) (fun q hq => by have := hown.block q hq; omega)
set_option maxHeartbeats 400000 in
/-- A text's bytes are appended, at such a step. -/
theorem step_s {ops : Array Oper} {o : Oper} {a : Act} {K : Act → World → Prop} {Q : Exit → Act → World → Prop} {E : Prop} {W : World} (hgd : o.guard = none) (s x : Operand)
    (ho : o.op = .call { callee := .builtin .append, args := #[s, x], argTypes := #[28, 9] })
    (A : Option Addr) (c l : Nat) (xs : List Int) (hs : a.eval s = .slice A l c) {base : Nat} (hown : OwnB base W A c l xs) (hB : base ≤ W.heap.size) (hl : 0 < l) (t : ByteArray)
    (hx : a.eval x = .string t) (hk : xs.length + t.size ≤ 140737488351232)
    (h : ∀ A' c' l' w', OwnB base w' A' c' l' (xs ++ sbytes t) → Grow base W w' → K (a.put o.dst (.slice A' l' c')) w') :
    if Region.wanted o (yielded ops a.tmps) = true then Oper.wp Try.prog o a W K Q else E := by
  obtain ⟨rfl, hown'⟩ := id hown
  obtain ⟨i0, hi, hz0, hz1, hz2⟩ := info_parts infoB
  have hw : Region.wanted o (yielded ops a.tmps) = true := by simp [Region.wanted, hgd]
  rw [if_pos hw]
  obtain ⟨v', w', hr, h1, h2, _⟩ := Lib.run_append_own_string (P := Try.prog) W base 28 9 o.type 5 i0 Try.underlying28 Try.underlying9 hi hz0 hz1 hz2 (.slice A xs.length c) xs.length (bvals xs) hown' t (by unfold maxLen; omega) (by omega) hB
  obtain ⟨g, cap, e, _, _⟩ := World.ownsRow.form h1 (by omega)
  subst e
  unfold Oper.wp execOp
  simp only [ho, resolve, invoke, builtin, Sem.run_bind, Sem.run_pure, Result.andThen_ok, List.map_toArray, List.map_cons, List.map_nil, hs, hx, hr]
  refine h _ _ _ w' ⟨by rw [List.length_append, sbytes_len], by rw [show bvals (xs ++ sbytes t) = bvals xs ++ bvals (sbytes t) by simp [bvals], ← strCells_eq]; exact h1⟩ ⟨h2.size, fun B w0 hB' hb => ?_, others_grown h2 hown.other⟩
  exact hb.grown h2 (by omega) (fun q hq => by have := hown.block q hq; omega)
theorem OwnB.alloc_drew {base : Nat} {w : World} {A : Option Addr} {c l : Nat} {xs : List Int} (h : OwnB base w A c l xs) (o : Obj) : OwnB base (w.alloc o).drew A c l xs := ⟨h.1, (World.ownsRow.alloc h.2 o).drew⟩
/-- One cell's bytes, and a list's. -/
def cellL (c : TI) : List Int := (c.s.size : Int) :: (sbytes c.s ++ fourT 4 c.n)
def listL (l : List TI) : List Int := (l.length : Int) :: l.flatMap cellL
theorem okC_of (c : TI) (h : okC c = true) : 1 ≤ c.s.size ∧ c.s.size ≤ 32 ∧ 0 ≤ c.n ∧ c.n ≤ 16000 := by
  unfold okC at h
  simp only [Bool.and_eq_true, decide_eq_true_eq] at h
  exact ⟨h.1.1.1, h.1.1.2, h.1.2, h.2⟩
theorem flat_len (l : List TI) (h : l.all okC = true) : (l.flatMap cellL).length ≤ l.length * 37 := by
  induction l with
  | nil => simp
  | cons c l ih =>
    simp only [List.all_cons, Bool.and_eq_true] at h
    have h1 := ih h.2
    have h2 := (okC_of c h.1).2.1
    rw [List.flatMap_cons, List.length_append]
    simp only [cellL, List.length_cons, List.length_append, sbytes_len, fourT, List.length_map, List.length_range]
    omega
set_option maxRecDepth 100000 in
set_option maxHeartbeats 4000000 in
theorem list (base : Nat) (A : Option Addr) (c l : Nat) (xs : List Int) (B : Option Addr) (cap : Nat) (cs : List TI) (w : World) (hB : base ≤ w.heap.size) (hown : OwnB base w A c l xs) (hx : xs.length ≤ 1000000)
    (hR : Lies w B (cs.flatMap TI.cells)) (hlow : ∀ b o, B = some ⟨b, o, none⟩ → 0 < cs.length → b < base) (hok : cellsB cs = true) :
    Calls Try.prog 23 #[.slice A l c, .slice B cs.length cap] w fun e w' => ∃ A' c' l', e = .returned (.slice A' l' c') ∧ OwnB base w' A' c' l' (xs ++ listL cs) ∧ Grow base w w' := by
  unfold cellsB at hok
  simp only [Bool.and_eq_true, decide_eq_true_eq] at hok
  obtain ⟨hall, h64⟩ := hok
  have HO := Lib.hid hown; have HR := Lib.hid hR; have HLOW := Lib.hid hlow; have HALL := Lib.hid hall
  have hln : xs.length + [(cs.length : Int)].length ≤ 140737488351232 := by simp; omega
  have HLN := Lib.hid hln
  clear hown hR hlow hall hln
  go_enter Try.func23, Try.ntmps23
  go_wp2_with (at_builtin; refine app_b rfl _ _ rfl A c l xs rfl HO.out hB [(cs.length : Int)] (Nat.succ_pos _) rfl HLN.out ?_; intro A1 c1 l1 w1 h1 h2; have HN1 := Lib.hid h1; have HN2 := Lib.hid h2; clear h1 h2)
  go_loopw [0, 5] (fun vb vi wr => ∃ (k : Nat) (A' : Option Addr) (c' l' : Nat), k ≤ cs.length ∧ vb = .slice A' l' c' ∧ vi = .int .i64 k ∧ Hid (OwnB base wr A' c' l' (xs ++ (cs.length : Int) :: (cs.take k).flatMap cellL) ∧ Grow base w wr)) (fun _ vi _ => cs.length - (intOf vi).toNat)
  case atStart => exact ⟨0, A1, c1, l1, by omega, rfl, rfl, Lib.hid ⟨HN1.out, HN2.out⟩⟩
  case round =>
    obtain ⟨k, A', c', l', hk, rfl, rfl, HH⟩ := hrel
    by_cases hlt : k < cs.length
    · have hc : cs[k]? = some (cs[k]'hlt) := List.getElem?_eq_getElem hlt
      have htk := List.take_succ_eq_append_getElem hlt
      have hoc := okC_of _ (List.all_eq_true.1 HALL.out _ (List.getElem_mem hlt))
      have hfl := flat_len (cs.take k) (by
        have := HALL.out
        rw [← List.take_append_drop k cs, List.all_append, Bool.and_eq_true] at this
        exact this.1)
      generalize cs[k]'hlt = x at hc htk hoc
      obtain ⟨f1, f2⟩ := flat2 cs k x hc
      obtain ⟨b, o, rfl, hb, hcell⟩ := HR.out.at_ f1
      have hbb := HLOW.out b o rfl (by omega)
      have e1 : wr.cell? ⟨b, o + k * 2, none⟩ = some (.string x.s) := (HH.out.2.cell (p := ⟨b, _, none⟩) hbb).trans (hcell _ _ f1)
      have e2 : wr.cell? ⟨b, o + k * 2 + 1, none⟩ = some (.int .i64 x.n) := (HH.out.2.cell (p := ⟨b, _, none⟩) hbb).trans (by rw [Nat.add_assoc]; exact hcell _ _ f2)
      obtain ⟨s1, s32, n0, n16⟩ := hoc
      have htl : (cs.take k).length ≤ 64 := by rw [List.length_take]; omega
      have hlen : (xs ++ (cs.length : Int) :: (cs.take k).flatMap cellL).length ≤ 1010000 := by rw [List.length_append, List.length_cons]; omega
      have HLEN := Lib.hid hlen; have HTK := Lib.hid htk
      clear hc htk f1 f2 hcell hfl hlen htl
      go_wp2_with fail
      have hwr : IntKind.u8.wrap (x.s.size : Int) = (x.s.size : Int) := by rw [IntKind.wrap_u8]; omega
      have hBr : base ≤ wr.heap.size := Nat.le_trans hB HH.out.2.1
      have hg0 : Grow base wr ((wr.alloc (.cells #[.int .u8 (x.s.size : Int)] 5)).drew) := ⟨by simp, fun B' w0 hB' hb => (hb.alloc (by omega) _).drew, Others.alloc (fun _ _ _ _ _ h => h) _⟩
      have HG0 := Lib.hid hg0
      have hk1 : (xs ++ (cs.length : Int) :: (cs.take k).flatMap cellL).length + [(x.s.size : Int)].length ≤ 140737488351232 := by have := HLEN.out; simp only [List.length_singleton]; omega
      have hk2 : (xs ++ (cs.length : Int) :: (cs.take k).flatMap cellL ++ [(x.s.size : Int)]).length + x.s.size ≤ 140737488351232 := by rw [List.length_append]; have := HLEN.out; simp only [List.length_singleton]; omega
      have HK1 := Lib.hid hk1; have HK2 := Lib.hid hk2
      clear hg0 hk1 hk2
      go_region_held3 (fun w' => w'.cell? ⟨b, o + k * 2, none⟩ = some (.string x.s))
        (first | exact e1 | go_keep | (rw [G3.out.cell (p := ⟨b, o + k * 2, none⟩) hbb, G2.out.cell (p := ⟨b, o + k * 2, none⟩) hbb, HG0.out.cell (p := ⟨b, o + k * 2, none⟩) hbb]; exact e1) | (rw [G2.out.cell (p := ⟨b, o + k * 2, none⟩) hbb, HG0.out.cell (p := ⟨b, o + k * 2, none⟩) hbb]; exact e1))
        ((first
          | (refine step_b rfl _ _ rfl A' c' l' _ rfl (base := base) (HH.out.1.alloc_drew _) (Nat.le_trans hBr (by simp)) [(x.s.size : Int)] (Nat.succ_pos _) ⟨wr.heap.size, 0, none⟩ 1 1 rfl rfl (fun j u hj => World.news_of_block (cs := #[.int .u8 (x.s.size : Int)]) (t := 5) (fr := (0, 0)) (heap_alloc_new wr _) j u hj) HK1.out ?_; intro A2 c2 l2 w2 h1 h2; have G1 := Lib.hid h1; have G2 := Lib.hid h2; clear h1 h2)
          | (refine step_s rfl _ _ rfl A2 c2 l2 _ rfl (base := base) G1.out (Nat.le_trans (Nat.le_trans hBr HG0.out.1) G2.out.1) (by rw [G1.out.1, List.length_append]; exact Nat.succ_pos _) x.s rfl HK2.out ?_; intro A3 c3 l3 w3 h1 h2; have G4 := Lib.hid h1; have G3 := Lib.hid h2; clear h1 h2)))
      have e3 : w3.cell? ⟨b, o + k * 2 + 1, none⟩ = some (.int .i64 x.n) := by
        rw [G3.out.cell (p := ⟨b, _, none⟩) hbb, G2.out.cell (p := ⟨b, _, none⟩) hbb, HG0.out.cell (p := ⟨b, _, none⟩) hbb]; exact e2
      have HB3 := Lib.hid (Nat.le_trans (Nat.le_trans (Nat.le_trans hBr HG0.out.1) G2.out.1) G3.out.1)
      have hx3 : (xs ++ (cs.length : Int) :: (cs.take k).flatMap cellL ++ [(x.s.size : Int)] ++ sbytes x.s).length ≤ 100000000 := by
        rw [List.length_append, List.length_append, sbytes_len]; have := HLEN.out; simp only [List.length_singleton]; omega
      have HX3 := Lib.hid hx3
      clear hx3 e1 e2
      go_wp2_with fail
      refine (four base A3 c3 l3 _ x.n n0 (by omega) _ HB3.out G4.out HX3.out).mono ?_
      rintro e w4 ⟨A4, c4, l4, rfl, h4, g4⟩
      have HO4 := Lib.hid h4; have HG4 := Lib.hid g4
      clear h4 g4 e3
      go_wp2_with fail
      go_roundw
      case rel =>
        refine ⟨k + 1, A4, c4, l4, by omega, rfl, by go_num, Lib.hid ⟨?_, HH.out.2.trans (HG0.out.trans (G2.out.trans (G3.out.trans HG4.out)))⟩⟩
        have hf : xs ++ (cs.length : Int) :: (cs.take (k + 1)).flatMap cellL = xs ++ (cs.length : Int) :: (cs.take k).flatMap cellL ++ [(x.s.size : Int)] ++ sbytes x.s ++ fourT 4 x.n := by
          rw [HTK.out, List.flatMap_append]
          simp [cellL]
        rw [hf]
        exact HO4.out
      case measure => simp [intOf]; omega
    · have hkl : k = cs.length := by omega
      subst hkl
      go_wp2_with fail
      go_ret
      refine ⟨_, _, _, rfl, ?_, HH.out.2⟩
      have h := HH.out.1
      rw [List.take_length] at h
      exact h
end Go.Proofs.Ytgcmbleinobneaa.ImRef
