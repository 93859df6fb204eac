/- DERIVED. ThPut, ThForm, TpPut, TpPut2, QuietTail, TpTake, TpBack, TpPTk in one text. By an AI agent. -/
import Derived.Test.YtkafmpdjpjgkgaaDoorZ04
import Derived.Laws.BitsAllLaws
import Derived.StillTail
import Derived.Lib.QuietBelow
/- DERIVED. The contract of the reference's Put. By an AI agent. -/
namespace Go.Proofs.YtkafmpdjpjgkgaaDoor.ThRef
open Go.ChangeShapes Go.WideShapes Go.ChangeAt Go.RowKit Go.Sort
set_option linter.unusedVariables false
/-- What one letter of a shape does: the bit, and what is left of the fields. -/
def stp (c D N M I : Nat) : Nat × Nat × Nat × Nat × Nat :=
  if c = 49 then (1, D, N, M, I) else if c = 100 ∨ c = 99 then (D % 2, D / 2, N, M, I) else if c = 110 then (N % 2, D, N / 2, M, I) else if c = 109 then (M % 2, D, N, M / 2, I)
  else if c = 105 then (I % 2, D, N, M, I / 2) else (0, D, N, M, I)
def putF : List Nat → Nat → Nat → Nat → Nat → Nat → Nat
  | [], _, _, _, _, _ => 0
  | c :: l, p, D, N, M, I => (stp c D N M I).1 * p + putF l (2 * p) (stp c D N M I).2.1 (stp c D N M I).2.2.1 (stp c D N M I).2.2.2.1 (stp c D N M I).2.2.2.2
/-- The letters that are left, the lowest first. -/
def lets (s : ByteArray) (K : Nat) : List Nat := ((s.data.toList.take K).reverse).map UInt8.toNat
def putR (k : Nat) (D N M I : Nat) : Nat := putF (lets (shapeN k) 16) 1 D N M I
theorem pow_le (m : Nat) (h : m ≤ 15) : 2 ^ m ≤ 32768 := Nat.le_trans (Nat.pow_le_pow_right (by decide) h) (by decide)
theorem can_bounds (op d n m imm : Int) (h : canB op d n m imm = true) : (0 ≤ d ∧ d ≤ 13) ∧ (0 ≤ n ∧ n ≤ 7) ∧ (0 ≤ m ∧ m ≤ 7) ∧ (-1024 ≤ imm ∧ imm ≤ 1023) := by
  have ho := can_op op d n m imm h
  obtain ⟨k, rfl⟩ := Int.eq_ofNat_of_zero_le ho.1
  have hk : k < 21 := by omega
  have hl : ∀ i : Fin 21, -1024 ≤ lowN i.val ∧ highN i.val ≤ 1023 := by decide
  have hlk := hl ⟨k, hk⟩
  unfold canB dB restB at h
  simp only [Int.toNat_natCast, Bool.and_eq_true, decide_eq_true_eq] at h
  obtain ⟨⟨⟨_, _⟩, hd⟩, ⟨⟨⟨⟨⟨⟨⟨_, h1⟩, h2⟩, _⟩, h3⟩, h4⟩, h5⟩, h6⟩⟩ := h
  refine ⟨?_, ⟨h1, h2⟩, ⟨h3, h4⟩, by simp only at hlk; omega, by simp only at hlk; omega⟩
  split at hd
  · simp at hd; exact hd
  · simp at hd; omega
end Go.Proofs.YtkafmpdjpjgkgaaDoor.ThRef
/- DERIVED. The reference's halfwords in closed form: for each Op a base and its fields, each at its place. By an AI agent. -/
namespace Go.Proofs.YtkafmpdjpjgkgaaDoor.ThRef
set_option linter.unusedVariables false
theorem put10 (D N M I : Nat) : putR 10 D N M I = 7680 + D % 8 * 1 + N % 8 * 8 + I % 8 * 64 := by
  have e : lets (shapeN 10) 16 = [100, 100, 100, 110, 110, 110, 105, 105, 105, 49, 49, 49, 49, 48, 48, 48] := by decide +kernel
  unfold putR
  rw [e]
  simp [putF, stp]
  omega
theorem put13 (D N M I : Nat) : putR 13 D N M I = 24576 + D % 8 * 1 + N % 8 * 8 + I % 32 * 64 := by
  have e : lets (shapeN 13) 16 = [100, 100, 100, 110, 110, 110, 105, 105, 105, 105, 105, 48, 48, 49, 49, 48] := by decide +kernel
  unfold putR
  rw [e]
  simp [putF, stp]
  omega
end Go.Proofs.YtkafmpdjpjgkgaaDoor.ThRef
/- DERIVED. The contract of the program's Put. By an AI agent. -/
namespace Go.Proofs.YtkafmpdjpjgkgaaDoor.Tp
open Go.ChangeShapes Go.WideShapes Go.ChangeAt Go.RowKit Go.Sort ThRef
set_option linter.unusedVariables false
theorem fld_ok (x : Nat) (hx : x < 13) : (fldN x).wid ≤ 11 ∧ (fldN x).wid + (fldN x).low ≤ 16 ∧ (fldN x).low ≤ 15 ∧ -1024 ≤ (fldN x).least ∧ (fldN x).least ≤ 1 := by
  have : ∀ i : Fin 13, (fldN i.val).wid ≤ 11 ∧ (fldN i.val).wid + (fldN i.val).low ≤ 16 ∧ (fldN i.val).low ≤ 15 ∧ -1024 ≤ (fldN i.val).least ∧ (fldN i.val).least ≤ 1 := by decide +kernel
  exact this ⟨x, hx⟩
def baseN (k : Nat) : Nat := (shpN k).head * 2 ^ (shpN k).low
theorem base_ok (k : Nat) (hk : k < 21) : baseN k < 65536 ∧ (shpN k).head < 65536 ∧ (shpN k).low ≤ 12 := by
  have : ∀ i : Fin 21, baseN i.val < 65536 ∧ (shpN i.val).head < 65536 ∧ (shpN i.val).low ≤ 12 := by decide +kernel
  exact this ⟨k, hk⟩
end Go.Proofs.YtkafmpdjpjgkgaaDoor.Tp
/- DERIVED. The program's Put answers as the reference's, whatever the numbers. By an AI agent. -/
namespace Go.Proofs.YtkafmpdjpjgkgaaDoor.Tp
open Go.ChangeShapes Go.WideShapes Go.ChangeAt Go.RowKit Go.Sort ThRef
set_option linter.unusedVariables false
end Go.Proofs.YtkafmpdjpjgkgaaDoor.Tp
/- DERIVED. Of no program: a region that draws its order, whose first n operations only read or make memory (quiet in a class of worlds) and whose other operations follow one by one: one walk serves every order. After the guide's two theorems on such regions (one world and a tail; a class of worlds and no tail). By an AI agent. -/
namespace Go.Proofs.YtkafmpdjpjgkgaaDoor.QT
open Go
variable {P : Program} {ops : Array Oper} {md : Region.Mode} {C : World → Prop}
/-- The head's operations, in whatever order: 'L' is left. -/
def hd (P : Program) (md : Region.Mode) (ops : Array Oper) (C : World → Prop) (n : Nat) (L : Array Bool → Act → Prop) : Nat → Array Bool → Act → Prop
  | 0, listed, a => L listed a
  | f + 1, listed, a => Region.ready md ops listed ≠ [] ∧ ∀ i ∈ Region.ready md ops listed, i < n ∧ qOp P ops C i (hd P md ops C n L f (listed.setIfInBounds i true)) a
theorem any_of_hd {n g : Nat} {L : Array Bool → Act → Prop} {Q' : Exit → Act → World → Prop} (hL : ∀ listed a w, C w → L listed a → wpAny P md ops Q' g listed a w) :
    ∀ (f : Nat) (listed : Array Bool) (a : Act) (w : World), C w → hd P md ops C n L f listed a → wpAny P md ops Q' (f + g) listed a w
  | 0, listed, a, w, hw, h => by rw [Nat.zero_add]; exact hL _ _ _ hw h
  | f + 1, listed, a, w, hw, h => by
    rw [show f + 1 + g = (f + g) + 1 by omega]
    exact ⟨fun h0 => absurd h0 h.1, fun i hi => wpOp_of_qOp hw (fun a' w' hw' h' => any_of_hd hL f _ a' w' hw' h') (h.2 i hi).2⟩
theorem ready_head {n i j : Nat} {listed : Array Bool} (hs : Region.sinkB md ops n = true) (hc : Region.chainB md ops n = true) (hn : n < ops.size) (inv : HeadInv md ops n listed) (hin : i < n)
    (hi : i ∈ Region.ready md ops listed) (hj : j ∈ Region.ready md ops listed) : j < n :=
  Nat.lt_of_not_le fun h => tail_waits hs hc hn inv _ i rfl hin (mem_ready.1 hi).1 j h hj
theorem hd_first {n i : Nat} {oi : Oper} {v : Value} {L : Array Bool → Act → Prop} (hi : ops[i]? = some oi) (hsel : ∀ (j : Nat) (o : Oper) cs b, ops[j]? = some o → o.op ≠ .select cs b)
    (hs : Region.sinkB md ops n = true) (hc : Region.chainB md ops n = true) (hn : n < ops.size) (hin : i < n) (hdone : ∀ listed a, L listed a → ∀ j ∈ Region.ready md ops listed, n ≤ j) :
    ∀ (f : Nat) (listed : Array Bool) (a : Act), HeadInv md ops n listed →
      (∀ j oj, ops[j]? = some oj → j ≠ i → listed.getD j true = false → (∀ e ∈ oj.after, Region.binds md e = true → e.on ≠ i) → oi.apart ops oj = true) →
      i ∈ Region.ready md ops listed → YieldsIn P ops C oi v a → hd P md ops C n L f (listed.setIfInBounds i true) (a.put oi.dst v) → hd P md ops C n L (f + 1) listed a := by
  intro f
  induction f with
  | zero =>
    intro listed a inv _ hr hy H
    refine ⟨List.ne_nil_of_mem hr, fun j hj => ⟨ready_head hs hc hn inv hin hr hj, ?_⟩⟩
    by_cases e : j = i
    · subst e; exact hy.qOp hi H
    · have := hdone _ _ H j (ready_mono hj e)
      have := ready_head hs hc hn inv hin hr hj
      omega
  | succ f ih =>
    intro listed a inv hfree hr hy H
    refine ⟨List.ne_nil_of_mem hr, fun j hj => ⟨ready_head hs hc hn inv hin hr hj, ?_⟩⟩
    have hjn := ready_head hs hc hn inv hin hr hj
    by_cases e : j = i
    · subst e; exact hy.qOp hi H
    · obtain ⟨hjun, oj, hoj, hall⟩ := mem_ready.1 hj
      have hnot : ∀ x ∈ oj.after, Region.binds md x = true → x.on ≠ i := fun x hx hb hq => by
        have h1 := hall x hx hb
        rw [hq, getD_both (mem_ready.1 hr).1] at h1
        cases h1
      refine qOp_mono (fun a' h3 => ih (listed.setIfInBounds j true) a' (inv.set hj hjn) (fun k ok hk hki hun hno => hfree k ok hk hki ?_ hno) (ready_mono hr (Ne.symm e)) h3.1 ?_)
        (qOp_put hoj (hfree j oj hoj e hjun hnot) (fun cs b => hsel i oi cs b hi) (fun cs b => hsel j oj cs b hoj) hy (H.2 j (ready_mono hj e)).2)
      · by_cases hjk : j = k
        · subst hjk; exact hjun
        · rw [getD_set_ne true hjk] at hun; exact hun
      · rw [Array.setIfInBounds_comm _ _ e]; exact h3.2
theorem hd_lex {n g : Nat} {Lq : Act → Prop} (hsel : Region.noSelect ops = true) (hs : Region.sinkB md ops n = true) (hc : Region.chainB md ops n = true) (hn : n < ops.size) :
    ∀ (l : List Oper) (k : Nat) (listed : Array Bool) (a : Act), (∀ j, j < l.length → l[j]? = ops[k + j]?) → k + l.length = n → HeadInv md ops n listed →
      Region.lexHead md ops g l.length k listed = true → wpQuiet P ops C Lq l a → hd P md ops C n (fun listed' a' => Region.seqB md ops g n listed' = true ∧ Lq a') l.length listed a
  | [], k, listed, a, _, hk, _, hB, h => by
    obtain rfl : k = n := by simpa using hk
    exact ⟨by simpa [Region.lexHead] using hB, h⟩
  | o :: l, k, listed, a, hl, hk, inv, hB, h => by
    have h0 : ops[k]? = some o := by simpa using (hl 0 (by simp)).symm
    simp only [List.length_cons, Region.lexHead, Bool.and_eq_true] at hB
    obtain ⟨⟨hr, hf⟩, hB'⟩ := hB
    have hkn : k < n := by simp only [List.length_cons] at hk; omega
    have hr' : k ∈ Region.ready md ops listed := by simpa using hr
    obtain ⟨v, hy, hK⟩ := yieldsIn_of_qOp h0 (show qOp P ops C k (wpQuiet P ops C Lq l) a by unfold qOp; simp only [h0]; exact h)
    exact hd_first h0 (Region.noSelect_spec hsel) hs hc hn hkn (fun listed' a' hL => seqB_ready hL.1) l.length listed a inv (Region.free_spec h0 hf) hr' hy
      (hd_lex hsel hs hc hn l (k + 1) _ _ (fun j hj => by have := hl (j + 1) (by simp; omega); simpa [Nat.add_assoc, Nat.add_comm 1 j] using this) (by simp only [List.length_cons] at hk; omega) (inv.set hr' hkn) hB' hK)
theorem wp_region_quiet_tail {id : Nat} {Q : Exit → Act → World → Prop} {a : Act} {w : World} {l : List Oper} (n : Nat) (hm : P.follows .mixedOrders = true) (hB : Region.lexTailB .any l.toArray n = true) (hC : C { w with drawn := w.drawn + 1 })
    (h : wpQuiet P l.toArray C (fun a' => ∀ w', C w' → wpList P l.toArray Q (l.drop n) a' w') (l.take n) a) : (Code.region id l.toArray true).wp P Q a w := by
  simp only [Region.lexTailB, Bool.and_eq_true, decide_eq_true_eq] at hB
  obtain ⟨⟨⟨⟨hsel, hn⟩, hs⟩, hc⟩, hlex⟩ := hB
  have hn' : n < l.length := by simpa using hn
  have htl : (l.take n).length = n := by simp; omega
  have hdl : (l.drop n).length = l.toArray.size - n := by simp
  have inv0 : HeadInv .any l.toArray n (Array.replicate l.toArray.size false) :=
    ⟨by simp, fun j oj _ hl => (by rw [getD_replicate_false] at hl; cases hl), fun t _ ht => getD_in (by simpa using ht) (getD_replicate_false _ _)⟩
  have H := hd_lex (md := .any) (g := l.toArray.size - n) hsel hs hc hn (l.take n) 0 _ a (fun j hj => by
    have hj' : j < n := by rw [htl] at hj; exact hj
    simp [hj']) (by simpa using htl) inv0 (by rw [htl]; exact hlex) h
  refine wp_region_any hm ?_
  have := any_of_hd (Q' := Q) (g := l.toArray.size - n) (fun listed a' w' hw' hL => by
    have := wpAny_of_seq (md := .any) (Q' := Q) (l.drop n) n listed a' w' (fun j => by simp [List.getElem?_drop]) (by rw [hdl]; exact hL.1) (hL.2 w' hw')
    rwa [hdl] at this) _ _ _ _ hC H
  rw [htl, show n + (l.toArray.size - n) = l.toArray.size by omega] at this
  exact this
/-- At the class 'the world with some draws, and with some blocks laid behind it'. -/
theorem wp_region_below_tail {id : Nat} {Q : Exit → Act → World → Prop} {a : Act} {w : World} {l : List Oper} (n : Nat) (hm : P.follows .mixedOrders = true) (hB : Region.lexTailB .any l.toArray n = true)
    (h : wpQuiet P l.toArray (fun w' => ∃ p : Regrown, w' = Sort.grow (redrawn w p.d) p.os) (fun a' => ∀ w', (∃ p : Regrown, w' = Sort.grow (redrawn w p.d) p.os) → wpList P l.toArray Q (l.drop n) a' w') (l.take n) a) : (Code.region id l.toArray true).wp P Q a w :=
  wp_region_quiet_tail (C := fun w' => ∃ p : Regrown, w' = Sort.grow (redrawn w p.d) p.os) n hm hB ⟨⟨w.drawn + 1, #[]⟩, by rw [Sort.grow_empty]; rfl⟩ h
end Go.Proofs.YtkafmpdjpjgkgaaDoor.QT
/- DERIVED. The contract of the program's Take. By an AI agent. -/
namespace Go.Proofs.YtkafmpdjpjgkgaaDoor.Tp
open Go.ChangeShapes Go.WideShapes Go.ChangeAt Go.RowKit Go.Sort ThRef
set_option linter.unusedVariables false
def tkT : List Nat → Nat → Nums → Nums
  | [], _, s => s
  | k :: l, h, s => tkT l h (s.set (fldN k).of (takeN (fldN k) h))
def nul : Nums := ⟨0, 0, 0, 0⟩
def tk (op h : Nat) : Nums := tkT (shpN op).has h nul
def canN (op : Nat) (s : Nums) : Bool := canB op s.d s.n s.m s.i
def headB (op h : Nat) : Bool := decide (h / 2 ^ (shpN op).low = (shpN op).head)
def takeF : Nat → Nat → Nat → Nat × Nums × Nat
  | 0, _, _ => (0, nul, 20)
  | n + 1, op, h => if headB op h && canN op (tk op h) then (op, tk op h, 0) else takeF n (op + 1) h
def resV (r : Nat × Nums × Nat) : Value := .tuple #[insN r.1 r.2.1, .int .i64 r.2.2]
theorem heap_set {w : World} {b i : Nat} {v : Value} {cs : Array Value} {t : TypeId} {fr : Nat × Nat} (h : w.heap[b]? = some (.cells cs t fr)) : (w.setCell ⟨b, i, none⟩ v).heap[b]? = some (.cells (cs.setIfInBounds i v) t fr) := by
  have hl : b < w.heap.size := (Array.getElem?_eq_some_iff.1 h).1
  have h' : w.heap[b] = _ := Array.getElem_eq_iff.2 h
  unfold World.setCell
  rw [Array.getElem?_eq_getElem (by simpa using hl), Array.getElem_modify, if_pos rfl, h']
  rfl
theorem Holds.store {b k : Nat} {s : Nums} {w : World} (h : Holds b k s w) (k' : Nat) (s' : Nums) :
    Holds b k' s' (((((w.setCell ⟨b, 0, none⟩ (.int .i64 k')).setCell ⟨b, 1, none⟩ (.int .i64 s'.d)).setCell ⟨b, 2, none⟩ (.int .i64 s'.n)).setCell ⟨b, 3, none⟩ (.int .i64 s'.m)).setCell ⟨b, 4, none⟩ (.int .i64 s'.i)) := by
  unfold Holds at h ⊢
  rw [heap_set (heap_set (heap_set (heap_set (heap_set h))))]
  rfl
theorem ret_res {b k e : Nat} {s : Nums} {w0 w : World} {tmps : Array Value} {r : Nat × Nums × Nat} (h : Holds b k s w) (h2 : tmps.getD 2 undef = .pointer (some ⟨b, 0, none⟩)) (h3 : tmps.getD 3 undef = .int .i64 e) (hr : r = (k, s, e)) (hb : Below w0.heap.size w0 w) :
    bodyPost Tryd.prog Tryd.f52 (fun x w' => x = .returned (resV r) ∧ Below w0.heap.size w0 w') Exit.ret ⟨tmps, []⟩ w := by
  have q0 := h.cell 0; have q1 := h.cell 1; have q2 := h.cell 2; have q3 := h.cell 3; have q4 := h.cell 4
  have h2' : tmps[2]?.getD undef = .pointer (some ⟨b, 0, none⟩) := by simpa using h2
  have h3' : tmps[3]?.getD undef = .int .i64 e := by simpa using h3
  subst hr
  exact bodyPost_ret (v := resV (k, s, e)) (by simp [results, Tryd.results52, go_sem, h2', h3', q0, q1, q2, q3, q4, resV]) rfl ⟨rfl, hb⟩
set_option maxRecDepth 100000 in
set_option maxHeartbeats 8000000 in
theorem takeP (hf : Nat) (hh : hf < 65536) (w : World) (hT : Tb w) : Calls Tryd.prog 52 #[.int .u16 hf] w fun e w' => e = .returned (resV (takeF 21 0 hf)) ∧ Below w.heap.size w w' := by
  have HT := Lib.hid hT
  clear hT
  go_enter Tryd.func52, Tryd.ntmps52
  go_wp2_with fail
  go_loopw [9] (fun vo wr => ∃ op : Nat, op ≤ 21 ∧ vo = .int .i64 op ∧ Hid (Holds w.heap.size 0 nul wr ∧ Below w.heap.size w wr ∧ takeF (21 - op) op hf = takeF 21 0 hf)) (fun vo _ => 21 - (intOf vo).toNat)
  case atStart => exact ⟨0, by omega, rfl, Lib.hid ⟨holds_new w 0 nul, (Below.refl _ _).alloc (Nat.le_refl _) _, rfl⟩⟩
  case round =>
    obtain ⟨op, hop, rfl, HH⟩ := hrel
    by_cases hlt : op < 21
    · have hTr := HT.out.below HH.out.2.1
      obtain ⟨a, cap, t2, hrow⟩ := hTr.s2 op hlt
      have t0 := hTr.s0 op hlt; have t1 := hTr.s1 op hlt
      have gs := hTr.gs
      obtain ⟨b1, b2, b3⟩ := base_ok op hlt
      have htf : takeF (21 - op) op hf = if headB op hf && canN op (tk op hf) then (op, tk op hf, 0) else takeF (21 - (op + 1)) (op + 1) hf := by
        rw [show 21 - op = (21 - (op + 1)) + 1 by omega, takeF]
      rw [HH.out.2.2] at htf
      have HTF := Lib.hid htf; have HTR := Lib.hid hTr; have HR := Lib.hid hrow
      clear htf hTr hrow
      by_cases hq : hf / 2 ^ (shpN op).low = (shpN op).head
      · have e1 : (((hf : Int) / 2 ^ (shpN op).low) != ((shpN op).head : Int)) = false := by
          have e : ((hf : Int) / 2 ^ (shpN op).low) = ((hf / 2 ^ (shpN op).low : Nat) : Int) := by rw [Int.natCast_ediv, Int.natCast_pow]; rfl
          rw [e, hq]; simp
        have HQ := Lib.hid hq
        clear hq
        go_wp2_with fail
        go_quiet (fail)
        have HH2 := Lib.hid (And.intro (show Holds w.heap.size 0 nul (wr.drewN nq) from HH.out.1) (And.intro (below_drewN HH.out.2.1 nq) (And.intro (show Tb (wr.drewN nq) from HTR.out.below (below_drewN (Below.refl _ _) nq)) (show ∀ j x : Nat, (shpN op).has[j]? = some x → (wr.drewN nq).cell? (a.add j) = some (.int .i64 (x : Int)) from HR.out))))
        have s2 : (wr.drewN nq).cell? _ = _ := t2
        have gs2 : _ < (wr.drewN nq).heap.size := gs
        clear t0 t1 t2 HH HTR HR gs
        generalize wr.drewN nq = wd at *
        go_wp2_with fail
        have hlx := has_lt op hlt
        have hlen : (shpN op).has.length ≤ 3 := by
          have : ∀ i : Fin 21, (shpN i.val).has.length ≤ 3 := by decide +kernel
          exact this ⟨op, hlt⟩
        have HLX := Lib.hid hlx
        clear hlx
        go_loopw [30] (fun vi wx => ∃ (j : Nat) (s : Nums), j ≤ (shpN op).has.length ∧ vi = .int .i64 j ∧ Hid (Holds wd.heap.size op s wx ∧ Below wd.heap.size wd wx ∧ tkT ((shpN op).has.drop j) hf s = tk op hf)) (fun vi _ => (shpN op).has.length - (intOf vi).toNat)
        case atStart => exact ⟨0, nul, by omega, rfl, Lib.hid ⟨holds_new wd op nul, (Below.refl _ _).alloc (Nat.le_refl _) _, rfl⟩⟩
        case round =>
          rename World => wx
          obtain ⟨j, s, hj, rfl, HI⟩ := hrel
          by_cases hjl : j < (shpN op).has.length
          · have hx : (shpN op).has[j]? = some ((shpN op).has[j]'hjl) := List.getElem?_eq_getElem hjl
            have hx13 := HLX.out j _ hx
            have hcell := HH2.out.2.2.2 j _ hx
            have hblk := World.block_lt_of_cell? wd _ hcell
            have hcell2 : wx.cell? (a.add j) = _ := (HI.out.2.1.cell hblk).trans hcell
            have hblk2 := World.block_lt_of_cell? wx _ hcell2
            have hdrop := List.drop_eq_getElem_cons hjl
            generalize (shpN op).has[j]'hjl = x at hx hx13 hcell hcell2 hdrop
            have hTx := HH2.out.2.2.1.below HI.out.2.1
            have f0 := hTx.f0 x hx13; have f1 := hTx.f1 x hx13; have f2 := hTx.f2 x hx13; have f3 := hTx.f3 x hx13; have f4 := hTx.f4 x hx13
            have gf2 := hTx.gf
            have hok := fld_ok x hx13
            have HD := Lib.hid hdrop; have HOK := Lib.hid hok
            clear hcell hblk hx hdrop hTx hok
            go_wp2_with fail
            have hal : ∀ o, Below wx.heap.size wx (wx.alloc o) := fun o => (Below.refl _ _).alloc (Nat.le_refl _) _
            have hcc : ∀ j, (wx.alloc (.cells #[.int .i64 (fldN x).of, .int .u64 (fldN x).low, .int .u64 (fldN x).wid, .int .i64 (fldN x).least, .int .i64 (fldN x).most] 115)).cell? ⟨wx.heap.size, j, none⟩ = _ := fun j => World.cell?_alloc_at _ _ _ _ rfl
            have r0 := fun d os => cell_regrown (hcc 0) d os
            have r1 := fun d os => cell_regrown (hcc 1) d os
            have r2 := fun d os => cell_regrown (hcc 2) d os
            have r3 := fun d os => cell_regrown (hcc 3) d os
            have r4 := fun d os => cell_regrown (hcc 4) d os
            have hN := number (fldN x) wd.heap.size
            have hP := take (fldN x) hf hh HOK.out.1 HOK.out.2.2.1 HOK.out.2.2.2.1 HOK.out.2.2.2.2
            have HN := Lib.hid hN; have HP := Lib.hid hP
            have hbel := fun d os => (hal (.cells #[.int .i64 (fldN x).of, .int .u64 (fldN x).low, .int .u64 (fldN x).wid, .int .i64 (fldN x).least, .int .i64 (fldN x).most] 115)).trans ((below_regrown _ d os).mono (by simp))
            have HBEL := Lib.hid hbel
            clear hcc hN hP hal hbel f0 f1 f2 f3 f4 hcell2
            refine QT.wp_region_below_tail 6 (by kernel_rfl) (by kernel_rfl) ?_
            simp only [List.take_succ_cons, List.take_zero, List.drop_succ_cons, List.drop_zero]
            repeat (go_big_quiet_step ((first | (go_at_call 66; exact Calls.regrown_of (HN.out _)) | (go_at_call 65; exact Calls.regrown_of (HP.out _)))))
            refine wpQuiet_nil ?_
            intro _ hw'
            obtain ⟨⟨dq, osq⟩, hw''⟩ := hw'
            subst hw''
            have hb3 := HBEL.out dq osq
            have hH3 := HI.out.1.below hb3
            have hv := hH3.num (fldN x).of
            have hfr := hH3.free (1 + min (fldN x).of 3)
            have HS := Lib.hid (hH3.set (fldN x).of (takeN (fldN x) hf))
            have HB3 := Lib.hid hb3
            clear r0 r1 r2 r3 r4 hb3 hH3
            generalize 1 + min (fldN x).of 3 = o at *
            go_wp2_with fail
            go_roundw
            case rel => exact ⟨j + 1, _, by omega, by go_num, Lib.hid ⟨HS.out, (HI.out.2.1.trans (HB3.out.mono HI.out.2.1.size)).setCell (Nat.le_refl _) _, by rw [← HI.out.2.2, HD.out, tkT]⟩⟩
            case measure => simp [intOf]; omega
          · have hjn : (shpN op).has.drop j = [] := List.drop_eq_nil_of_le (by omega)
            have hs : s = tk op hf := by rw [← HI.out.2.2, hjn, tkT]
            subst hs
            clear hjn
            have q0 := HI.out.1.cell 0; have q1 := HI.out.1.cell 1; have q2 := HI.out.1.cell 2; have q3 := HI.out.1.cell 3; have q4 := HI.out.1.cell 4
            have hcan := can op (tk op hf).d (tk op hf).n (tk op hf).m (tk op hf).i wx (HH2.out.2.2.1.below HI.out.2.1)
            have htf := HTF.out
            have hhd : headB op hf = true := by unfold headB; rw [HQ.out]; simp
            rw [hhd, Bool.true_and] at htf
            have hcn : canN op (tk op hf) = canB op (tk op hf).d (tk op hf).n (tk op hf).m (tk op hf).i := rfl
            rw [hcn] at htf
            generalize canB op (tk op hf).d (tk op hf).n (tk op hf).m (tk op hf).i = cb at hcan htf
            have HCAN := Lib.hid hcan; have HTF2 := Lib.hid htf
            clear hcan htf hhd hcn HTF
            go_wp2_with fail
            refine HCAN.out.mono ?_
            rintro e w5 ⟨rfl, hb5⟩
            have hbwx : Below w.heap.size w wx := HH2.out.2.1.trans (HI.out.2.1.mono HH2.out.2.1.size)
            have HB5 := Lib.hid (hbwx.trans (hb5.mono hbwx.size))
            have hH5 := HI.out.1.below hb5
            have hR5 := (HH2.out.1.below HI.out.2.1).below hb5
            clear q0 q1 q2 q3 q4 hbwx
            cases cb
            · have HR5 := Lib.hid hR5
              clear hR5 hH5 hb5
              go_wp2_with fail
              go_roundw
              case rel => exact ⟨op + 1, by omega, by go_num, Lib.hid ⟨HR5.out, HB5.out, by rw [HTF2.out]; rfl⟩⟩
              case measure => simp [intOf]; omega
            · have q0 := hH5.cell 0; have q1 := hH5.cell 1; have q2 := hH5.cell 2; have q3 := hH5.cell 3; have q4 := hH5.cell 4
              have p0 := hR5.cell 0; have p1 := hR5.cell 1; have p2 := hR5.cell 2; have p3 := hR5.cell 3; have p4 := hR5.cell 4
              have z0 := hR5.free 0; have z1 := hR5.free 1; have z2 := hR5.free 2; have z3 := hR5.free 3; have z4 := hR5.free 4
              have HST := Lib.hid (hR5.store op (tk op hf))
              clear hb5 hR5 hH5
              go_wp2_with fail
              have hb6 := ((((HB5.out.setCell (p := ⟨w.heap.size, 0, none⟩) (Nat.le_refl _) (.int .i64 op)).setCell (p := ⟨w.heap.size, 1, none⟩) (Nat.le_refl _) (.int .i64 (tk op hf).d)).setCell (p := ⟨w.heap.size, 2, none⟩) (Nat.le_refl _) (.int .i64 (tk op hf).n)).setCell (p := ⟨w.heap.size, 3, none⟩) (Nat.le_refl _) (.int .i64 (tk op hf).m)).setCell (p := ⟨w.heap.size, 4, none⟩) (Nat.le_refl _) (.int .i64 (tk op hf).i)
              have hst := HST.out
              generalize ((((w5.setCell ⟨w.heap.size, 0, none⟩ (.int .i64 op)).setCell ⟨w.heap.size, 1, none⟩ (.int .i64 (tk op hf).d)).setCell ⟨w.heap.size, 2, none⟩ (.int .i64 (tk op hf).n)).setCell ⟨w.heap.size, 3, none⟩ (.int .i64 (tk op hf).m)).setCell ⟨w.heap.size, 4, none⟩ (.int .i64 (tk op hf).i) = w6 at *
              exact ret_res hst rfl rfl (by rw [HTF2.out]; rfl) hb6
      · have e1 : (((hf : Int) / 2 ^ (shpN op).low) != ((shpN op).head : Int)) = true := by
          have e : ((hf : Int) / 2 ^ (shpN op).low) = ((hf / 2 ^ (shpN op).low : Nat) : Int) := by rw [Int.natCast_ediv, Int.natCast_pow]; rfl
          rw [e]
          simp only [bne_iff_ne, ne_eq]
          intro hc
          exact hq (Int.natCast_inj.1 hc)
        have htf := HTF.out
        have hhd : headB op hf = false := by unfold headB; simpa using hq
        rw [hhd, Bool.false_and] at htf
        have HTF2 := Lib.hid htf
        clear hq htf hhd HTF
        go_wp2_with fail
        go_quiet (fail)
        go_wp2_with fail
        go_roundw
        case rel => exact ⟨op + 1, by omega, by go_num, Lib.hid ⟨HH.out.1, below_drewN HH.out.2.1 _, by rw [HTF2.out]; rfl⟩⟩
        case measure => simp [intOf]; omega
    · have e21 : op = 21 := by omega
      subst e21
      have hR := HH.out.1
      have p0 := hR.cell 0; have p1 := hR.cell 1; have p2 := hR.cell 2; have p3 := hR.cell 3; have p4 := hR.cell 4
      have z0 := hR.free 0; have z1 := hR.free 1; have z2 := hR.free 2; have z3 := hR.free 3; have z4 := hR.free 4
      have HST := Lib.hid (hR.store 0 nul)
      have htf := HH.out.2.2
      have HTF := Lib.hid htf
      clear hR htf
      go_wp2_with fail
      have hb6 := ((((HH.out.2.1.setCell (p := ⟨w.heap.size, 0, none⟩) (Nat.le_refl _) (.int .i64 0)).setCell (p := ⟨w.heap.size, 1, none⟩) (Nat.le_refl _) (.int .i64 0)).setCell (p := ⟨w.heap.size, 2, none⟩) (Nat.le_refl _) (.int .i64 0)).setCell (p := ⟨w.heap.size, 3, none⟩) (Nat.le_refl _) (.int .i64 0)).setCell (p := ⟨w.heap.size, 4, none⟩) (Nat.le_refl _) (.int .i64 0)
      exact ret_res HST.out rfl rfl (by rw [← HTF.out]; rfl) hb6
end Go.Proofs.YtkafmpdjpjgkgaaDoor.Tp
/- DERIVED. Plain facts: what was put is taken; no two instructions have one halfword. By an AI agent. -/
namespace Go.Proofs.YtkafmpdjpjgkgaaDoor.Tp
open Go.ChangeShapes Go.WideShapes Go.ChangeAt Go.RowKit Go.Sort ThRef
set_option linter.unusedVariables false
end Go.Proofs.YtkafmpdjpjgkgaaDoor.Tp
/- DERIVED. What Take finds is what Put puts: plain facts. By an AI agent. -/
namespace Go.Proofs.YtkafmpdjpjgkgaaDoor
open Go.ChangeShapes Go.WideShapes Go.ChangeAt Go.RowKit Go.Sort ThRef Tp
set_option linter.unusedVariables false
theorem Tp.takeF_ok (h : Nat) : ∀ n op k s, takeF n op h = (k, s, 0) → headB k h = true ∧ canN k s = true ∧ s = tk k h ∧ k < op + n
  | 0, op, k, s, hr => by simp [takeF] at hr
  | n + 1, op, k, s, hr => by
    rw [takeF] at hr
    split at hr
    · rename_i hc
      simp at hc hr
      obtain ⟨rfl, rfl⟩ := hr
      exact ⟨hc.1, hc.2, rfl, by omega⟩
    · obtain ⟨h1, h2, h3, h4⟩ := Tp.takeF_ok h n (op + 1) k s hr
      exact ⟨h1, h2, h3, by omega⟩
end Go.Proofs.YtkafmpdjpjgkgaaDoor
