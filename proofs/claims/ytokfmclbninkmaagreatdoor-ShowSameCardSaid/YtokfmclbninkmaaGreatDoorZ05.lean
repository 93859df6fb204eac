/- DERIVED. ShArg, ShPl, PaSk, PaMo, ShMade, ShTx in one text. By an AI agent. -/
import Derived.Test.YtokfmclbninkmaaGreatDoorRows
import Derived.Test.YtokfmclbninkmaaGreatDoorZ04
import Derived.ProofKit
import Derived.OpenShut
import Derived.Test.YtokfmclbninkmaaGreatDoorZ03
/- DERIVED. Trees that came in by value: what lies where, and how much that is. By an AI agent. -/
namespace Go.Proofs.YtokfmclbninkmaaGreatDoor.Sh
open Go Go.ChangeShapes Go.WideShapes Go.ChangeAt Go.RowKit Lx Args Pa
set_option linter.unusedVariables false
set_option linter.unusedSimpArgs false
inductive Tz
  | mk (k a : Int) (s : Bs) (n : Nat) (ps : List Bs) (l : List Tz)
/-- A node's six cells. -/
def nzC (k a : Int) (s : Bs) (n : Nat) (A : Option Addr) (la cA : Nat) (B : Option Addr) (lb cB : Nat) : List Value :=
  [.int .i64 k, .string ⟨s.toArray⟩, .int .u32 (n : Int), .int .i64 a, .slice A la cA, .slice B lb cB]
mutual
/-- A tree's six cells, and what stands behind them. -/
def TIc (q : Prop) (w : World) : Tz → List Value → Prop
  | .mk k a s n ps l, cs => ∃ A cA B cB, cs = nzC k a s n A l.length cA B ps.length cB ∧ l.length ≤ maxLen ∧ ps.length ≤ maxLen ∧ Lies w B (ps.map strV) ∧
      ∃ css, Lies w A css.flatten ∧ TsIc q w l css ∧ (q → l.length ≤ cA ∧ cA ≤ maxLen)
def TsIc (q : Prop) (w : World) : List Tz → List (List Value) → Prop
  | [], css => css = []
  | x :: l, css => ∃ c r, css = c :: r ∧ TIc q w x c ∧ TsIc q w l r
end
abbrev TIz (w : World) : Tz → List Value → Prop := TIc False w
abbrev TsIz (w : World) : List Tz → List (List Value) → Prop := TsIc False w
mutual
/-- Numbers are of 32 bits. -/
def nz : Tz → Prop
  | .mk _ _ _ n _ l => n < 4294967296 ∧ nzs l
def nzs : List Tz → Prop
  | [] => True
  | x :: l => nz x ∧ nzs l
end
def bps : List Bs → Nat
  | [] => 0
  | p :: ps => p.length + 1 + bps ps
mutual
/-- How much a tree is: its nodes, names and their letters. -/
def bz : Tz → Nat
  | .mk _ _ s _ ps l => s.length + bps ps + bzs l + 1
def bzs : List Tz → Nat
  | [] => 0
  | x :: l => bz x + bzs l
end
theorem cNd : Tryz.prog.cellsOf 26 = 6 := by kernel_rfl
theorem cIn : Tryz.prog.cellsOf 3 = 1 := by kernel_rfl
theorem cSt : Tryz.prog.cellsOf 9 = 1 := by kernel_rfl
theorem cU : Tryz.prog.cellsOf 22 = 1 := by kernel_rfl
theorem cSl : Tryz.prog.cellsOf 23 = 1 := by kernel_rfl
theorem cSs : Tryz.prog.cellsOf 24 = 1 := by kernel_rfl
theorem uIn : Tryz.prog.underlying 3 = some (.int .i64) := by kernel_rfl
theorem uSt : Tryz.prog.underlying 9 = some .string := by kernel_rfl
theorem uU : Tryz.prog.underlying 22 = some (.int .u32) := by kernel_rfl
theorem uSl : Tryz.prog.underlying 23 = some (.slice 26) := by kernel_rfl
theorem uSs : Tryz.prog.underlying 24 = some (.slice 9) := by kernel_rfl
section
variable {H : Type} {enc : TypeId × Value → H} {w : World} {base : Nat} {spare : Nat → Bool} {held : Bool}
theorem strs_in {n len : Nat} {a : Addr} {elems : List (DataW H × List MemPlace)} (hlen : elems.length = len)
    (hel : ∀ i, i < len → (w.cells? base (a.add (i * 1)) 1).bind (DataW.trod enc Tryz.prog w base spare held n 9) = elems[i]?) :
    ∀ m i, i + m = len → ∃ ps : List Bs, ps.length = m ∧ (∀ j u, (ps.map strV)[j]? = some u → w.cell? (a.add (i + j)) = some u) ∧ bps ps ≤ Rows.uptoBulkAll ((elems.drop i).map (·.1)) := by
  intro m
  induction m with
  | zero => intro i hi; exact ⟨[], rfl, fun j u h => by simp at h, Nat.zero_le _⟩
  | succ m ih =>
    intro i hi
    obtain ⟨ps, h1, h2, h3⟩ := ih (i + 1) (by omega)
    have h := hel i (by omega)
    have hei : elems[i]? = some (elems[i]'(by omega)) := List.getElem?_eq_getElem (by omega)
    rw [hei, Option.bind_eq_some_iff] at h
    obtain ⟨c1, hc1, ht1⟩ := h
    obtain ⟨hcb, hcl, hat⟩ := World.cells?_some hc1
    match c1, hcl with
    | [x0], _ =>
      obtain ⟨s, e0, d0, _⟩ := DataW.trod_string uSt ht1
      simp only [List.cons.injEq, and_true] at e0
      subst e0
      have a0 := hat 0 (by omega)
      rw [add0, Nat.mul_one] at a0
      refine ⟨s.data.toList :: ps, by simp [h1], fun j u hj => ?_, ?_⟩
      · cases j with
        | zero =>
          have : u = .string s := by simpa [strV] using hj.symm
          rw [this]; exact a0
        | succ j =>
          rw [show i + (j + 1) = i + 1 + j by omega]
          exact h2 j u (by simpa using hj)
      · rw [List.drop_eq_getElem_cons (by omega), List.map_cons]
        simp only [Rows.uptoBulkAll, bps]
        rw [d0]
        simp only [Rows.uptoBulk]
        omega
theorem nodes_in {n len : Nat} {a : Addr} {elems : List (DataW H × List MemPlace)} (hlen : elems.length = len)
    (hel : ∀ i, i < len → (w.cells? base (a.add (i * 6)) 6).bind (DataW.trod enc Tryz.prog w base spare held n 26) = elems[i]?)
    (IH : ∀ (cs : List Value) (x : DataW H × List MemPlace), DataW.trod enc Tryz.prog w base spare held n 26 cs = some x → ∃ z, TIc True w z cs ∧ nz z ∧ bz z ≤ Rows.uptoBulk x.1) :
    ∀ m i, i + m = len → ∃ (l : List Tz) (css : List (List Value)), l.length = m ∧ (TsIc True w l css ∧ nzs l) ∧ (∀ j u, css.flatten[j]? = some u → w.cell? (a.add (i * 6 + j)) = some u) ∧ bzs l ≤ Rows.uptoBulkAll ((elems.drop i).map (·.1)) := by
  intro m
  induction m with
  | zero => intro i hi; exact ⟨[], [], rfl, ⟨by unfold TsIc; rfl, trivial⟩, fun j u h => by simp at h, Nat.zero_le _⟩
  | succ m ih =>
    intro i hi
    obtain ⟨l, css, h1, ⟨hT, hN⟩, h2, h3⟩ := ih (i + 1) (by omega)
    have h := hel i (by omega)
    have hei : elems[i]? = some (elems[i]'(by omega)) := List.getElem?_eq_getElem (by omega)
    rw [hei, Option.bind_eq_some_iff] at h
    obtain ⟨c1, hc1, ht1⟩ := h
    obtain ⟨hcb, hcl, hat⟩ := World.cells?_some hc1
    obtain ⟨z, hz, hn, hb⟩ := IH c1 _ ht1
    refine ⟨z :: l, c1 :: css, by simp [h1], ⟨by unfold TsIc; exact ⟨c1, css, rfl, hz, hT⟩, by unfold nzs; exact ⟨hn, hN⟩⟩, fun j u hj => ?_, ?_⟩
    · rw [List.flatten_cons] at hj
      by_cases h6 : j < 6
      · rw [List.getElem?_append_left (by omega)] at hj
        have a0 := hat j (by omega)
        rw [add_add] at a0
        rw [← hj]
        exact a0
      · rw [List.getElem?_append_right (by omega), hcl] at hj
        have := h2 _ u hj
        rw [show i * 6 + j = (i + 1) * 6 + (j - 6) by omega]
        exact this
    · rw [List.drop_eq_getElem_cons (by omega), List.map_cons]
      simp only [Rows.uptoBulkAll, bzs]
      omega
set_option maxRecDepth 100000 in
/-- What lies in a node's cells. -/
theorem node_in : ∀ (fuel : Nat) (cs : List Value) (x : DataW H × List MemPlace), DataW.trod enc Tryz.prog w base spare held fuel 26 cs = some x → ∃ z, TIc True w z cs ∧ nz z ∧ bz z ≤ Rows.uptoBulk x.1 := by
  intro fuel
  induction fuel using Nat.strongRecOn with
  | ind fuel IH =>
    intro cs x h
    obtain ⟨xs, n, hn, hx, hlen, hxl, hg⟩ := DataW.trod_struct Tryz.underlying26 h
    rw [cNd] at hlen
    match cs, hlen, xs, hxl with
    | [q0, q1, q2, q3, q4, q5], _, [y0, y1, y2, y3, y4, y5], _ =>
      have g0 := hg 0 _ rfl; have g1 := hg 1 _ rfl; have g2 := hg 2 _ rfl; have g3 := hg 3 _ rfl; have g4 := hg 4 _ rfl; have g5 := hg 5 _ rfl
      simp [cIn, cSt, cU, cSl, cSs] at g0 g1 g2 g3 g4 g5
      obtain ⟨k, e0, d0, wk⟩ := DataW.trod_int uIn g0
      obtain ⟨s, e1, d1, _⟩ := DataW.trod_string uSt g1
      obtain ⟨v, e2, d2, wv⟩ := DataW.trod_int uU g2
      obtain ⟨a, e3, d3, wa⟩ := DataW.trod_int uIn g3
      simp only [List.cons.injEq, and_true] at e0 e1 e2 e3
      subst e0 e1 e2 e3
      have hv := bounds_u32 wv
      obtain ⟨m, rfl⟩ : ∃ m : Nat, v = (m : Int) := ⟨v.toNat, by omega⟩
      have hS : ∃ (l : List Tz) (A : Option Addr) (cA : Nat) (css : List (List Value)), q4 = .slice A l.length cA ∧ l.length ≤ maxLen ∧ nzs l ∧ Lies w A css.flatten ∧ TsIc True w l css ∧ (l.length ≤ cA ∧ cA ≤ maxLen) ∧ bzs l ≤ Rows.uptoBulk y4.1 := by
        rcases DataW.trod_slice uSl g4 with ⟨e, _⟩ | ⟨a, len, cap, elems, rest, n', hn', e, hy, hbl, hl, hm, hle, hel, hsp, hns⟩
        · simp only [List.cons.injEq, and_true] at e
          subst e
          exact ⟨[], none, 0, [], rfl, by decide, trivial, Lies.nil _ _, by unfold TsIc; rfl, ⟨Nat.le_refl _, by decide⟩, Nat.zero_le _⟩
        · simp only [List.cons.injEq, and_true] at e
          subst e
          rw [cNd] at hel
          obtain ⟨l, css, h1, ⟨h2, hN⟩, h3, h4⟩ := nodes_in hle hel (IH n' (by omega)) len 0 (by omega)
          refine ⟨l, some a, cap, css, by rw [h1], by omega, hN, fun j u hj => ⟨a, rfl, ?_⟩, h2, ⟨by omega, hm⟩, ?_⟩
          · have := h3 j u hj
            rwa [show 0 * 6 + j = j by omega] at this
          · rw [hy]
            simp only [Rows.uptoBulk]
            simp only [List.drop_zero] at h4
            omega
      have hP : ∃ (ps : List Bs) (B : Option Addr) (cB : Nat), q5 = .slice B ps.length cB ∧ ps.length ≤ maxLen ∧ Lies w B (ps.map strV) ∧ bps ps ≤ Rows.uptoBulk y5.1 := by
        rcases DataW.trod_slice uSs g5 with ⟨e, _⟩ | ⟨a, len, cap, elems, rest, n', hn', e, hy, hbl, hl, hm, hle, hel, hsp, hns⟩
        · simp only [List.cons.injEq, and_true] at e
          subst e
          exact ⟨[], none, 0, rfl, by decide, Lies.nil _ _, Nat.zero_le _⟩
        · simp only [List.cons.injEq, and_true] at e
          subst e
          rw [cSt] at hel
          obtain ⟨ps, h1, h3, h4⟩ := strs_in hle hel len 0 (by omega)
          refine ⟨ps, some a, cap, by rw [h1], by omega, fun j u hj => ⟨a, rfl, ?_⟩, ?_⟩
          · have := h3 j u hj
            rwa [Nat.zero_add] at this
          · rw [hy]
            simp only [Rows.uptoBulk]
            simp only [List.drop_zero] at h4
            omega
      obtain ⟨l, A, cA, css, rfl, hlA, hnA, hLA, hTA, hcA, hbA⟩ := hS
      obtain ⟨ps, B, cB, rfl, hlB, hLB, hbB⟩ := hP
      refine ⟨.mk k a s.data.toList m ps l, ?_, ?_, ?_⟩
      · unfold TIc
        exact ⟨A, cA, B, cB, rfl, hlA, hlB, hLB, css, hLA, hTA, fun _ => hcA⟩
      · unfold nz; exact ⟨by omega, hnA⟩
      · rw [hx]
        simp only [List.map_cons, List.map_nil, Rows.uptoBulk, Rows.uptoBulkAll, bz]
        rw [d1]
        simp only [Rows.uptoBulk]
        omega
set_option maxRecDepth 100000 in
/-- A node that came in by value. -/
theorem node_of {r : Reach} {b0 : Nat} {v : Value} {d : DataW H} {p : List MemPlace} (hv : Value.okWide Tryz.prog w r b0 26 v) (h : DataW.Trod enc Tryz.prog w base spare held 26 v d p) :
    ∃ z cs, v = .agg cs.toArray ∧ TIc True w z cs ∧ nz z ∧ bz z ≤ Rows.uptoBulk d := by
  obtain ⟨cs, rfl, _⟩ := okWide_struct Tryz.underlying26 hv
  obtain ⟨fuel, hf⟩ := h
  obtain ⟨z, h1, h2, h3⟩ := node_in fuel _ _ hf
  exact ⟨z, _, by simp [Value.cells], h1, h2, h3⟩
end
end Go.Proofs.YtokfmclbninkmaaGreatDoor.Sh
/- DERIVED. Trees of any kind, plainly: how many nodes, how deep, the same but for places, their texts as the reference has them. Of no program. By an AI agent. -/
namespace Go.Proofs.YtokfmclbninkmaaGreatDoor.Sh
open Lx Pa
mutual
def cntz : Tz → Nat
  | .mk _ _ _ _ _ l => 1 + cnts l
def cnts : List Tz → Nat
  | [] => 0
  | x :: l => cntz x + cnts l
end
mutual
def depz : Tz → Nat
  | .mk _ _ _ _ _ l => 1 + deps l
def deps : List Tz → Nat
  | [] => 0
  | x :: l => max (depz x) (deps l)
end
mutual
/-- How many nodes there are, up to one more than most; no deeper than deep. -/
def pa (deep most : Nat) : Tz → Nat
  | .mk _ _ _ _ _ l => if deep = 0 ∨ most = 0 then most + 1 else pas (deep - 1) most 1 l
def pas (deep most k : Nat) : List Tz → Nat
  | [] => k
  | x :: l => if k ≤ most then pas deep most (k + pa deep (most - k) x) l else k
end
theorem pas_over {deep most k : Nat} (h : most < k) : ∀ (l : List Tz), pas deep most k l = k
  | [] => by unfold pas; rfl
  | x :: l => by unfold pas; rw [if_neg (by omega)]
mutual
theorem pa_spec : ∀ (z : Tz) (deep most : Nat), (cntz z ≤ most → depz z ≤ deep → pa deep most z = cntz z) ∧ (¬ (cntz z ≤ most ∧ depz z ≤ deep) → most < pa deep most z)
  | .mk _ _ _ _ _ l, deep, most => by
    unfold pa cntz depz
    by_cases h0 : deep = 0 ∨ most = 0
    · rw [if_pos h0]
      exact ⟨fun a b => by omega, fun _ => by omega⟩
    · rw [if_neg h0]
      have h := pas_spec l (deep - 1) most 1 (by omega)
      exact ⟨fun a b => h.1 a (by omega), fun hn => h.2 fun hh => hn ⟨hh.1, by omega⟩⟩
theorem pas_spec : ∀ (l : List Tz) (deep most k : Nat), k ≤ most → (k + cnts l ≤ most → deps l ≤ deep → pas deep most k l = k + cnts l) ∧ (¬ (k + cnts l ≤ most ∧ deps l ≤ deep) → most < pas deep most k l)
  | [], deep, most, k, hk => by
    unfold pas cnts deps
    exact ⟨fun _ _ => rfl, fun hn => absurd ⟨by omega, by omega⟩ hn⟩
  | x :: l, deep, most, k, hk => by
    unfold pas cnts deps
    rw [if_pos hk]
    have h1 := pa_spec x deep (most - k)
    by_cases hx : cntz x ≤ most - k ∧ depz x ≤ deep
    · rw [h1.1 hx.1 hx.2]
      have h2 := pas_spec l deep most (k + cntz x) (by omega)
      exact ⟨fun a b => by rw [h2.1 (by omega) (by omega)]; omega, fun hn => h2.2 fun hh => hn ⟨by omega, by omega⟩⟩
    · have h3 := h1.2 hx
      rw [pas_over (by omega)]
      exact ⟨fun a b => absurd ⟨by omega, by omega⟩ hx, fun _ => by omega⟩
end
/-- Not too great to be gone through. -/
theorem small_iff (z : Tz) (deep most : Nat) : pa deep most z ≤ most ↔ cntz z ≤ most ∧ depz z ≤ deep := by
  have h := pa_spec z deep most
  constructor
  · intro hp
    by_cases hh : cntz z ≤ most ∧ depz z ≤ deep
    · exact hh
    · have := h.2 hh; omega
  · intro hh
    rw [h.1 hh.1 hh.2]; exact hh.1
mutual
def sameB : Tz → Tz → Bool
  | .mk k _ s n ps l, .mk k' _ s' n' ps' l' => decide (k = k') && (s == s') && decide (n = n') && (ps == ps') && sameBs l l'
def sameBs : List Tz → List Tz → Bool
  | [], [] => true
  | x :: l, y :: l' => sameB x y && sameBs l l'
  | _, _ => false
end
mutual
def embz : Tr → Tz
  | .mk k a s n ps l => .mk (k : Int) (a : Int) s n ps (embs l)
def embs : List Tr → List Tz
  | [] => []
  | x :: l => embz x :: embs l
end
theorem embs_len : ∀ l : List Tr, (embs l).length = l.length
  | [] => rfl
  | x :: l => by unfold embs; simp [embs_len l]
mutual
theorem same_refl : ∀ z : Tz, sameB z z = true
  | .mk k a s n ps l => by unfold sameB; simp [same_refls l]
theorem same_refls : ∀ l : List Tz, sameBs l l = true
  | [] => rfl
  | x :: l => by unfold sameBs; simp [same_refl x, same_refls l]
end
mutual
/-- An expression's text, as the reference has it; dec: a number's digits. -/
def exT (dec : Nat → Bs) : Tz → Bs
  | .mk k _ s n _ l => if k = 0 then dec n else if k = 1 then s else if k = 2 then s ++ liT dec [] true true l else if k = 5 then s ++ [40] ++ liT dec [44, 32] false true l ++ [41] else liT dec ([32] ++ s ++ [32]) true true l
/-- Expressions' texts, with bt between; op: as operands; first: nothing is ahead. -/
def liT (dec : Nat → Bs) (bt : Bs) (op first : Bool) : List Tz → Bs
  | [] => []
  | x :: l => (if first then [] else bt) ++ opT dec op x ++ liT dec bt op false l
def opT (dec : Nat → Bs) (op : Bool) : Tz → Bs
  | .mk k _ s n _ l =>
    let t := if k = 0 then dec n else if k = 1 then s else if k = 2 then s ++ liT dec [] true true l else if k = 5 then s ++ [40] ++ liT dec [44, 32] false true l ++ [41] else liT dec ([32] ++ s ++ [32]) true true l
    if op && !(decide (k = 0) || decide (k = 1) || decide (k = 5)) then [40] ++ t ++ [41] else t
end
def kz : Tz → Int
  | .mk k _ _ _ _ _ => k
theorem opT_eq (dec : Nat → Bs) (op : Bool) (z : Tz) : opT dec op z = if op && !(decide (kz z = 0) || decide (kz z = 1) || decide (kz z = 5)) then [40] ++ exT dec z ++ [41] else exT dec z := by
  cases z
  unfold opT exT kz
  rfl
def naT (first : Bool) : List Bs → Bs
  | [] => []
  | p :: ps => (if first then [] else [44, 32]) ++ p ++ naT false ps
end Go.Proofs.YtokfmclbninkmaaGreatDoor.Sh
/- DERIVED. Places change nothing else in what is read. Of no program. By an AI agent. -/
namespace Go.Proofs.YtokfmclbninkmaaGreatDoor.Pa
open Lx
def NT.sk : NT → NT
  | .lev n => .lev n
  | .more n x => .more n (Pa.sk x)
  | .args l => .args (skL l)
  | .fin k _ s ps => .fin k 0 s ps
  | .inner => .inner
  | .inners l => .inners (skL l)
  | .stmt => .stmt
  | .stmts l => .stmts (skL l)
end Go.Proofs.YtokfmclbninkmaaGreatDoor.Pa
/- DERIVED. More fuel changes nothing; where an error is told, and which. Of no program. By an AI agent. -/
namespace Go.Proofs.YtokfmclbninkmaaGreatDoor.Pa
open Lx
def Le (o o' : OO) : Prop := ∀ x, o = some x → o' = some x
theorem le_refl (o : OO) : Le o o := fun _ h => h
theorem le_if {c : Prop} [Decidable c] {o o' p p' : OO} (h1 : Le o o') (h2 : Le p p') : Le (if c then o else p) (if c then o' else p') := by
  by_cases h : c
  · rw [if_pos h, if_pos h]; exact h1
  · rw [if_neg h, if_neg h]; exact h2
theorem le_bnd {o o' : OO} {f f' : List Tr → List Tk → OO} (h : Le o o') (hf : ∀ xs r, Le (f xs r) (f' xs r)) : Le (bnd o f) (bnd o' f') := by
  rcases o with _ | ⟨l, r⟩ | ⟨a, e⟩
  · intro x hx; cases hx
  · rw [h _ rfl]; exact hf l r
  · rw [h _ rfl]; exact le_refl _
theorem le_must {b : Bs} {l : List Tk} {f f' : List Tk → OO} (hf : ∀ r, Le (f r) (f' r)) : Le (must b l f) (must b l f') := by
  cases l with
  | nil => exact le_refl _
  | cons t l => unfold must; exact le_if (hf _) (le_refl _)
theorem le_name {l : List Tk} {f f' : Bs → List Tk → OO} (hf : ∀ s r, Le (f s r) (f' s r)) : Le (nameK l f) (nameK l f') := by
  cases l with
  | nil => exact le_refl _
  | cons t l => unfold nameK; exact le_if (hf _ _) (le_refl _)
theorem le_names {f f' : List Bs → List Tk → OO} (hf : ∀ ps r, Le (f ps r) (f' ps r)) : ∀ (ps : List Bs) (l : List Tk), Le (namesK ps l f) (namesK ps l f')
  | _, [] => le_refl _
  | ps, [t] => by unfold namesK; exact le_if (hf _ _) (le_refl _)
  | ps, t :: u :: r => by unfold namesK; exact le_if (le_if (le_names hf _ r) (hf _ _)) (le_refl _)
/-- More fuel changes nothing. -/
theorem pF_mono (num : Bs → Nat × Nat) : ∀ (f g : Nat), f ≤ g → ∀ (nt : NT) (d : Nat) (l : List Tk), Le (pF num f nt d l) (pF num g nt d l) := by
  intro f
  induction f with
  | zero => intro g _ nt d l x hx; cases hx
  | succ f ih0 =>
    intro g hg nt d l
    obtain ⟨g, rfl⟩ : ∃ x, g = x + 1 := ⟨g - 1, by omega⟩
    have ih := ih0 g (by omega)
    clear ih0
    cases nt with
    | lev n =>
      unfold pF
      refine le_if (le_bnd (ih _ _ _) fun xs r => ih _ _ _) ?_
      cases l with
      | nil => exact le_refl _
      | cons t r =>
        simp only
        refine le_if (le_refl _) (le_if (le_bnd (ih _ _ _) fun xs r => le_refl _) (le_if (le_refl _) (le_if (le_bnd (ih _ _ _) fun xs r => le_refl _) (le_name fun s r => ?_))))
        cases r with
        | nil => exact le_refl _
        | cons u r => exact le_if (le_bnd (ih _ _ _) fun xs r => le_bnd (ih _ _ _) fun ys r => le_refl _) (le_refl _)
    | more n x =>
      unfold pF
      cases l with
      | nil => exact le_refl _
      | cons t r => exact le_if (le_bnd (ih _ _ _) fun ys r => ih _ _ _) (le_refl _)
    | args xs =>
      unfold pF
      cases l with
      | nil => exact le_refl _
      | cons t r => exact le_if (le_bnd (ih _ _ _) fun ys r => ih _ _ _) (le_refl _)
    | fin k a s ps =>
      unfold pF
      exact le_bnd (ih _ _ _) fun xs r => le_refl _
    | inner =>
      unfold pF
      cases l with
      | nil => exact le_refl _
      | cons t r =>
        exact le_if (le_refl _) (le_if (le_name fun s r => le_must fun r => le_bnd (ih _ _ _) fun xs r => le_must fun r => le_bnd (ih _ _ _) fun ys r => le_must fun r => le_bnd (ih _ _ _) fun zs r => le_refl _) (le_name fun s r => le_must fun r => ih _ _ _))
    | inners zs =>
      unfold pF
      cases l with
      | nil => exact le_refl _
      | cons t r => exact le_if (le_refl _) (le_bnd (ih _ _ _) fun xs r => ih _ _ _)
    | stmt =>
      unfold pF
      cases l with
      | nil => exact le_refl _
      | cons t r =>
        exact le_if (le_refl _) (le_if (le_refl _) (le_if (le_name fun s r => le_must fun r => ih _ _ _) (le_if (le_name fun s r => le_must fun r => ih _ _ _)
          (le_if (le_name fun s r => le_must fun r => le_names (fun ps r => le_must fun r => le_must fun r => ih _ _ _) _ _) (ih _ _ _)))))
    | stmts xs =>
      unfold pF
      cases l with
      | nil => exact le_refl _
      | cons t r => exact le_if (le_refl _) (le_bnd (ih _ _ _) fun ys r => ih _ _ _)
/-- What is read, whatever the fuel, is one. -/
theorem pF_one {num : Bs → Nat × Nat} {f g : Nat} {nt : NT} {d : Nat} {l : List Tk} {o o' : Out} (h : pF num f nt d l = some o) (h' : pF num g nt d l = some o') : o = o' := by
  have h1 := pF_mono num f (max f g) (Nat.le_max_left _ _) nt d l o h
  have h2 := pF_mono num g (max f g) (Nat.le_max_right _ _) nt d l o' h'
  rw [h1] at h2
  exact Option.some.inj h2
/-- Tokens with the end behind them. -/
def Et (l : List Tk) : Prop := ∃ u e, l = u ++ [e] ∧ e.k = 0 ∧ ∀ t ∈ u, t.k ≠ 0
theorem et_nil : ¬ Et [] := fun ⟨u, e, h, _⟩ => by cases u <;> cases h
theorem et_tail {t : Tk} {r : List Tk} (h : Et (t :: r)) (ht : t.k ≠ 0) : Et r := by
  obtain ⟨u, e, h1, h2, h3⟩ := h
  cases u with
  | nil => simp only [List.nil_append, List.cons.injEq] at h1; rw [h1.1] at ht; exact absurd h2 ht
  | cons x u => simp only [List.cons_append, List.cons.injEq] at h1; exact ⟨u, e, h1.2, h2, fun t ht => h3 t (List.mem_cons_of_mem _ ht)⟩
/-- A good outcome over tokens: what is left of them has the end; an error stands at one of them. -/
def Gd (l : List Tk) : OO → Prop
  | none => True
  | some (.ok _ r) => Et r ∧ r <:+ l
  | some (.bad a e) => (∃ t ∈ l, a = t.at_) ∧ (e = 100 ∨ e = 150)
theorem gd_up {l l' : List Tk} {o : OO} (h : Gd l o) (hl : l <:+ l') : Gd l' o := by
  rcases o with _ | ⟨xs, r⟩ | ⟨a, e⟩
  · trivial
  · exact ⟨h.1, h.2.trans hl⟩
  · obtain ⟨⟨t, ht, ha⟩, he⟩ := h
    exact ⟨⟨t, hl.subset ht, ha⟩, he⟩
theorem gd_wrong {l : List Tk} (h : Et l) {e : Nat} (he : e = 100 ∨ e = 150) : Gd l (wrong l e) := by
  cases l with
  | nil => exact absurd h et_nil
  | cons t r => exact ⟨⟨t, List.mem_cons_self .., rfl⟩, he⟩
theorem gd_ok {l r : List Tk} (xs : List Tr) (h : Et r) (hl : r <:+ l) : Gd l (some (.ok xs r)) := ⟨h, hl⟩
theorem gd_if {l : List Tk} {c : Prop} [Decidable c] {o p : OO} (h1 : c → Gd l o) (h2 : ¬ c → Gd l p) : Gd l (if c then o else p) := by
  by_cases h : c
  · rw [if_pos h]; exact h1 h
  · rw [if_neg h]; exact h2 h
theorem gd_bnd {l : List Tk} {o : OO} {f : List Tr → List Tk → OO} (h : Gd l o) (hf : ∀ xs r, Et r → r <:+ l → Gd r (f xs r)) : Gd l (bnd o f) := by
  rcases o with _ | ⟨xs, r⟩ | ⟨a, e⟩
  · trivial
  · exact gd_up (hf xs r h.1 h.2) h.2
  · exact h
theorem gd_must {b : Bs} {l : List Tk} {f : List Tk → OO} (h : Et l) (hf : ∀ r, Et r → Gd r (f r)) : Gd l (must b l f) := by
  cases l with
  | nil => exact absurd h et_nil
  | cons t r =>
    refine gd_if (fun hb => gd_up (hf r (et_tail h ?_)) (List.suffix_cons t r)) fun _ => gd_wrong h (.inl rfl)
    unfold isS at hb
    simp only [Bool.and_eq_true, decide_eq_true_eq] at hb
    omega
theorem gd_name {l : List Tk} {f : Bs → List Tk → OO} (h : Et l) (hf : ∀ s r, Et r → Gd r (f s r)) : Gd l (nameK l f) := by
  cases l with
  | nil => exact absurd h et_nil
  | cons t r => exact gd_if (fun hb => gd_up (hf t.s r (et_tail h (by omega))) (List.suffix_cons t r)) fun _ => gd_wrong h (.inl rfl)
theorem is_k {b : Bs} {t : Tk} (h : isS b t = true) : t.k ≠ 0 := by
  unfold isS at h
  simp only [Bool.and_eq_true, decide_eq_true_eq] at h
  omega
theorem gd_names {f : List Bs → List Tk → OO} (hf : ∀ ps r, Et r → Gd r (f ps r)) : ∀ (ps : List Bs) (l : List Tk), Et l → Gd l (namesK ps l f)
  | _, [], h => absurd h et_nil
  | ps, [t], h => by
    unfold namesK
    exact gd_if (fun hb => absurd (et_tail h (by omega)) et_nil) fun _ => gd_wrong h (.inl rfl)
  | ps, t :: u :: r, h => by
    unfold namesK
    refine gd_if (fun hb => ?_) fun _ => gd_wrong h (.inl rfl)
    have h2 := et_tail h (by omega)
    exact gd_if (fun hu => gd_up (gd_names hf _ r (et_tail h2 (is_k hu))) ((List.suffix_cons u r).trans (List.suffix_cons t _))) fun _ => gd_up (hf _ _ h2) (List.suffix_cons t _)
theorem on_k {n : Nat} {t : Tk} (h : onS n t = true) : t.k ≠ 0 := by
  unfold onS at h
  simp only [Bool.and_eq_true, beq_iff_eq] at h
  omega
/-- Errors stand at tokens; what is left has the end. -/
theorem pF_good (num : Bs → Nat × Nat) : ∀ (f : Nat) (nt : NT) (d : Nat) (l : List Tk), Et l → Gd l (pF num f nt d l) := by
  intro f
  induction f with
  | zero => intros; trivial
  | succ f ih =>
    intro nt d l h
    have one : ∀ {t : Tk} {r : List Tk} {o : OO}, Gd r o → Gd (t :: r) o := fun {t r o} hg => gd_up hg (List.suffix_cons t r)
    cases l with
    | nil => exact absurd h et_nil
    | cons t r =>
    cases nt with
    | lev n =>
      unfold pF
      refine gd_if (fun _ => gd_bnd (ih _ _ _ h) fun xs r hr _ => ih _ _ _ hr) fun _ => ?_
      refine gd_if (fun _ => gd_wrong h (.inr rfl)) fun _ => gd_if (fun hs => ?_) fun _ => gd_if (fun hk => ?_) fun _ => gd_if (fun hs => ?_) fun _ => gd_name h fun s r hr => ?_
      · have hr : Et r := et_tail h (by
          rcases Bool.or_eq_true_iff.1 hs with hs | hs <;> exact is_k hs)
        exact one (gd_bnd (ih _ _ _ hr) fun xs r' hr' _ => gd_ok _ hr' (List.suffix_refl _))
      · refine gd_if (fun _ => gd_ok _ (et_tail h (by omega)) (List.suffix_cons t r)) fun _ => gd_wrong h ?_
        by_cases h4 : (num t.s).2 = 4
        · rw [if_pos h4]; exact .inl rfl
        · rw [if_neg h4]; exact .inr rfl
      · exact one (gd_bnd (ih _ _ _ (et_tail h (is_k hs))) fun xs r' hr' _ => gd_must hr' fun r2 hr2 => gd_ok _ hr2 (List.suffix_refl _))
      · cases r with
        | nil => exact absurd hr et_nil
        | cons u r' =>
          refine gd_if (fun hu => ?_) fun _ => gd_ok _ hr (List.suffix_refl _)
          exact one (gd_bnd (ih _ _ _ (et_tail hr (is_k hu))) fun xs r2 hr2 _ => gd_bnd (ih _ _ _ hr2) fun ys r3 hr3 _ => gd_must hr3 fun r4 hr4 => gd_ok _ hr4 (List.suffix_refl _))
    | more n x =>
      unfold pF
      exact gd_if (fun hs => one (gd_bnd (ih _ _ _ (et_tail h (on_k hs))) fun ys r' hr' _ => ih _ _ _ hr')) fun _ => gd_ok _ h (List.suffix_refl _)
    | args xs =>
      unfold pF
      exact gd_if (fun hs => one (gd_bnd (ih _ _ _ (et_tail h (is_k hs))) fun ys r' hr' _ => ih _ _ _ hr')) fun _ => gd_ok _ h (List.suffix_refl _)
    | fin k a s ps =>
      unfold pF
      exact gd_bnd (ih _ _ _ h) fun xs r hr _ => gd_must hr fun r' hr' => gd_ok _ hr' (List.suffix_refl _)
    | inner =>
      unfold pF
      exact gd_if (fun _ => gd_wrong h (.inr rfl)) fun _ => gd_if (fun hs => one (gd_name (et_tail h (is_k hs)) fun s r hr => gd_must hr fun r hr => gd_bnd (ih _ _ _ hr) fun xs r hr _ => gd_must hr fun r hr => gd_bnd (ih _ _ _ hr) fun ys r hr _ => gd_must hr fun r hr => gd_bnd (ih _ _ _ hr) fun zs r hr _ => gd_ok _ hr (List.suffix_refl _)))
        fun _ => gd_name h fun s r hr => gd_must hr fun r hr => ih _ _ _ hr
    | inners zs =>
      unfold pF
      exact gd_if (fun hs => gd_ok _ (et_tail h (is_k hs)) (List.suffix_cons t r)) fun _ => gd_bnd (ih _ _ _ h) fun xs r hr _ => ih _ _ _ hr
    | stmt =>
      unfold pF
      refine gd_if (fun hs => one (gd_names (fun ps r hr => ?_) _ _ (et_tail h (is_k hs)))) fun _ => gd_if (fun hs => one (gd_names (fun ps r hr => ?_) _ _ (et_tail h (is_k hs)))) fun _ => gd_if (fun hs => one (gd_name (et_tail h (is_k hs)) fun s r hr => ?_)) fun _ =>
        gd_if (fun hs => one (gd_name (et_tail h (is_k hs)) fun s r hr => ?_)) fun _ => gd_if (fun hs => one (gd_name (et_tail h (is_k hs)) fun s r hr => ?_)) fun _ => ih _ _ _ h
      · exact gd_must hr fun r hr => gd_ok _ hr (List.suffix_refl _)
      · exact gd_must hr fun r hr => gd_ok _ hr (List.suffix_refl _)
      · exact gd_must hr fun r hr => ih _ _ _ hr
      · exact gd_must hr fun r hr => ih _ _ _ hr
      · refine gd_must hr fun r hr => gd_names (fun ps r hr => ?_) _ _ hr
        exact gd_must hr fun r hr => gd_must hr fun r hr => ih _ _ _ hr
    | stmts xs =>
      unfold pF
      exact gd_if (fun _ => gd_ok _ h (List.suffix_refl _)) fun _ => gd_bnd (ih _ _ _ h) fun ys r hr _ => ih _ _ _ hr
end Go.Proofs.YtokfmclbninkmaaGreatDoor.Pa
/- DERIVED. What the grammar reads is well made: kinds, texts, names and parts as the grammar has them. Of no program. By an AI agent. -/
namespace Go.Proofs.YtokfmclbninkmaaGreatDoor.Pa
open Lx
mutual
/-- A tree that an expression is; its names are of Q. -/
def gE (Q : Bs → Prop) : Tr → Prop
  | .mk k _ s n ps l => ps = [] ∧ gEs Q l ∧ n < 4294967296 ∧ ((k = 0 ∧ s = [] ∧ l = []) ∨ (n = 0 ∧ ((k = 1 ∧ Q s ∧ l = []) ∨ (k = 2 ∧ (s = [126] ∨ s = [45]) ∧ l.length = 1) ∨
      (k = 3 ∧ (s = [124] ∨ s = [94] ∨ s = [38] ∨ s = [43] ∨ s = [45]) ∧ l.length = 2) ∨ (k = 4 ∧ (s = [60, 60] ∨ s = [62, 62] ∨ s = [60, 60, 60]) ∧ l.length = 2) ∨ (k = 5 ∧ Q s ∧ l ≠ []))))
def gEs (Q : Bs → Prop) : List Tr → Prop
  | [] => True
  | x :: l => gE Q x ∧ gEs Q l
end
mutual
/-- A statement that may stand in a for. -/
def gS (Q : Bs → Prop) : Tr → Prop
  | .mk k _ s n ps l => n = 0 ∧ ps = [] ∧ Q s ∧ ((k = 10 ∧ l.length = 1 ∧ gA Q 1 l) ∨ (k = 11 ∧ 2 ≤ l.length ∧ gA Q 2 l))
/-- So many expressions, then statements. -/
def gA (Q : Bs → Prop) : Nat → List Tr → Prop
  | _, [] => True
  | 0, x :: l => gS Q x ∧ gA Q 0 l
  | i + 1, x :: l => gE Q x ∧ gA Q i l
end
/-- A program's statement. -/
def gT (Q : Bs → Prop) : Tr → Prop
  | .mk k a s n ps l => gS Q (.mk k a s n ps l) ∨ (n = 0 ∧ (((k = 6 ∨ k = 7) ∧ s = [] ∧ l = [] ∧ ps ≠ [] ∧ (∀ p ∈ ps, Q p)) ∨ ((k = 8 ∨ k = 9) ∧ ps = [] ∧ Q s ∧ ∃ x, l = [x] ∧ gE Q x) ∨
      (k = 12 ∧ ps ≠ [] ∧ (∀ p ∈ ps, Q p) ∧ Q s ∧ ∃ x, l = [x] ∧ gE Q x)))
theorem gE_put {Q : Bs → Prop} {x : Tr} (h : gE Q x) (a : Nat) : gE Q (x.put a) := by
  cases x
  unfold Tr.put gE
  unfold gE at h
  exact h
def TQ (Q : Bs → Prop) (l : List Tk) : Prop := ∀ t ∈ l, t.k = 1 → Q t.s
theorem TQ.tail {Q : Bs → Prop} {t : Tk} {l : List Tk} (h : TQ Q (t :: l)) : TQ Q l := fun u hu => h u (List.mem_cons_of_mem _ hu)
theorem TQ.hd {Q : Bs → Prop} {t : Tk} {l : List Tk} (h : TQ Q (t :: l)) (hk : t.k = 1) : Q t.s := h t (List.mem_cons_self ..) hk
def Gr (Q : Bs → Prop) (P : List Tr → Prop) : OO → Prop
  | some (.ok xs r) => P xs ∧ TQ Q r
  | _ => True
section
variable {Q : Bs → Prop} {P P' : List Tr → Prop}
theorem gr_wrong (l : List Tk) (e : Nat) : Gr Q P (wrong l e) := trivial
theorem gr_if {c : Prop} [Decidable c] {o p : OO} (h1 : c → Gr Q P o) (h2 : ¬ c → Gr Q P p) : Gr Q P (if c then o else p) := by
  by_cases h : c
  · rw [if_pos h]; exact h1 h
  · rw [if_neg h]; exact h2 h
theorem gr_bnd {o : OO} {f : List Tr → List Tk → OO} (h : Gr Q P o) (hf : ∀ xs r, P xs → TQ Q r → Gr Q P' (f xs r)) : Gr Q P' (bnd o f) := by
  rcases o with _ | ⟨xs, r⟩ | ⟨a, e⟩
  · trivial
  · exact hf xs r h.1 h.2
  · trivial
theorem gr_ok {xs : List Tr} {r : List Tk} (h : P xs) (hr : TQ Q r) : Gr Q P (some (.ok xs r)) := ⟨h, hr⟩
theorem gr_mono {o : OO} (h : Gr Q P o) (hP : ∀ xs, P xs → P' xs) : Gr Q P' o := by
  rcases o with _ | ⟨xs, r⟩ | ⟨a, e⟩
  · trivial
  · exact ⟨hP xs h.1, h.2⟩
  · trivial
theorem gr_must {b : Bs} {l : List Tk} {f : List Tk → OO} (h : TQ Q l) (hf : ∀ r, TQ Q r → Gr Q P (f r)) : Gr Q P (must b l f) := by
  cases l with
  | nil => trivial
  | cons t r => exact gr_if (fun _ => hf r h.tail) fun _ => gr_wrong _ _
theorem gr_name {l : List Tk} {f : Bs → List Tk → OO} (h : TQ Q l) (hf : ∀ s r, Q s → TQ Q r → Gr Q P (f s r)) : Gr Q P (nameK l f) := by
  cases l with
  | nil => trivial
  | cons t r => exact gr_if (fun hk => hf t.s r (h.hd hk) h.tail) fun _ => gr_wrong _ _
theorem gr_names {f : List Bs → List Tk → OO} (hf : ∀ ps r, ps ≠ [] → (∀ p ∈ ps, Q p) → TQ Q r → Gr Q P (f ps r)) : ∀ (ps : List Bs) (l : List Tk), (∀ p ∈ ps, Q p) → TQ Q l → Gr Q P (namesK ps l f)
  | _, [], _, _ => trivial
  | ps, [t], hp, h => by
    unfold namesK
    exact gr_if (fun hk => hf _ _ (by simp) (fun p hm => by
      rcases List.mem_append.1 hm with hm | hm
      · exact hp p hm
      · rw [List.mem_singleton.1 hm]; exact h.hd hk) h.tail) fun _ => gr_wrong _ _
  | ps, t :: u :: r, hp, h => by
    unfold namesK
    refine gr_if (fun hk => ?_) fun _ => gr_wrong _ _
    have hq : ∀ p ∈ ps ++ [t.s], Q p := fun p hm => by
      rcases List.mem_append.1 hm with hm | hm
      · exact hp p hm
      · rw [List.mem_singleton.1 hm]; exact h.hd hk
    exact gr_if (fun _ => gr_names hf _ r hq h.tail.tail) fun _ => hf _ _ (by simp) hq h.tail
end
def preM (Q : Bs → Prop) : NT → Prop
  | .more _ x => gE Q x
  | _ => True
def gN (Q : Bs → Prop) : NT → List Tr → Prop
  | .lev _, xs => ∃ x, xs = [x] ∧ gE Q x
  | .more _ _, xs => ∃ x, xs = [x] ∧ gE Q x
  | .args l, xs => ∃ ys, xs = l ++ ys ∧ gEs Q ys
  | .fin k a s ps, xs => ∃ x, xs = [.mk k a s 0 ps [x]] ∧ gE Q x
  | .inner, xs => ∃ x, xs = [x] ∧ gS Q x
  | .inners l, xs => ∃ ys, xs = l ++ ys ∧ gA Q 0 ys
  | .stmt, xs => ∃ x, xs = [x] ∧ gT Q x
  | .stmts l, xs => ∃ ys, xs = l ++ ys ∧ ∀ y ∈ ys, gT Q y
theorem on_bin {Q : Bs → Prop} {n : Nat} {t : Tk} {x y : Tr} (h : onS n t = true) (hx : gE Q x) (hy : gE Q y) (a : Nat) : gE Q (.mk (if n = 3 then 4 else 3) a t.s 0 [] [x, y]) := by
  unfold onS at h
  simp only [Bool.and_eq_true, List.contains_iff_mem] at h
  have hs := h.2
  unfold gE
  refine ⟨rfl, ⟨hx, hy, trivial⟩, by decide, .inr ⟨rfl, ?_⟩⟩
  rcases n with _ | _ | _ | _ | n
  · simp only [sOf, List.mem_singleton] at hs
    exact .inr (.inr (.inl ⟨rfl, .inl hs, rfl⟩))
  · simp only [sOf, List.mem_singleton] at hs
    exact .inr (.inr (.inl ⟨rfl, .inr (.inl hs), rfl⟩))
  · simp only [sOf, List.mem_singleton] at hs
    exact .inr (.inr (.inl ⟨rfl, .inr (.inr (.inl hs)), rfl⟩))
  · simp only [sOf, List.mem_cons, List.not_mem_nil, or_false] at hs
    exact .inr (.inr (.inr (.inl ⟨rfl, hs, rfl⟩)))
  · simp only [sOf, List.mem_cons, List.not_mem_nil, or_false] at hs
    refine .inr (.inr (.inl ⟨if_neg (by omega), ?_, rfl⟩))
    rcases hs with hs | hs
    · exact .inr (.inr (.inr (.inl hs)))
    · exact .inr (.inr (.inr (.inr hs)))
/-- What is read is well made. -/
theorem pF_made {num : Bs → Nat × Nat} {Q : Bs → Prop} (hn : ∀ b, (num b).1 < 4294967296) : ∀ (f : Nat) (nt : NT) (d : Nat) (l : List Tk), preM Q nt → TQ Q l → Gr Q (gN Q nt) (pF num f nt d l) := by
  intro f
  induction f with
  | zero => intros; trivial
  | succ f ih =>
    intro nt d l hp h
    cases nt with
    | lev n =>
      unfold pF
      refine gr_if (fun _ => gr_bnd (ih (.lev (n + 1)) _ _ trivial h) fun xs r hx hr => ?_) fun _ => ?_
      · obtain ⟨x, rfl, hx⟩ := hx
        exact ih (.more n x) _ _ hx hr
      cases l with
      | nil => trivial
      | cons t r =>
      refine gr_if (fun _ => gr_wrong _ _) fun _ => gr_if (fun hs => ?_) fun _ => gr_if (fun hk => ?_) fun _ => gr_if (fun hs => ?_) fun _ => gr_name h fun s r hs hr => ?_
      · refine gr_bnd (ih (.lev 5) _ _ trivial h.tail) fun xs r' hx hr => ⟨?_, hr⟩
        obtain ⟨x, rfl, hx⟩ := hx
        refine ⟨_, rfl, ?_⟩
        unfold gE
        refine ⟨rfl, ⟨hx, trivial⟩, by decide, .inr ⟨rfl, .inr (.inl ⟨rfl, ?_, rfl⟩)⟩⟩
        unfold isS at hs
        simp only [Bool.or_eq_true, Bool.and_eq_true, beq_iff_eq] at hs
        rcases hs with hs | hs
        · exact .inl hs.2
        · exact .inr hs.2
      · refine gr_if (fun _ => ⟨⟨_, rfl, ?_⟩, h.tail⟩) fun _ => gr_wrong _ _
        unfold gE
        exact ⟨rfl, trivial, hn _, .inl ⟨rfl, rfl, rfl⟩⟩
      · refine gr_bnd (ih (.lev 0) _ _ trivial h.tail) fun xs r' hx hr => gr_must hr fun r2 hr2 => ⟨?_, hr2⟩
        obtain ⟨x, rfl, hx⟩ := hx
        exact ⟨_, rfl, gE_put hx _⟩
      · have leaf : gE Q (.mk 1 t.at_ s 0 [] []) := by
          unfold gE
          exact ⟨rfl, trivial, by decide, .inr ⟨rfl, .inl ⟨rfl, hs, rfl⟩⟩⟩
        cases r with
        | nil => exact ⟨⟨_, rfl, leaf⟩, hr⟩
        | cons u r' =>
          refine gr_if (fun hu => ?_) fun _ => ⟨⟨_, rfl, leaf⟩, hr⟩
          refine gr_bnd (ih (.lev 0) _ _ trivial hr.tail) fun xs r2 hx hr2 => gr_bnd (ih (.args xs) _ _ trivial hr2) fun ys r3 hy hr3 => gr_must hr3 fun r4 hr4 => ⟨?_, hr4⟩
          obtain ⟨x, rfl, hx⟩ := hx
          obtain ⟨zs, rfl, hz⟩ := hy
          refine ⟨_, rfl, ?_⟩
          unfold gE
          exact ⟨rfl, ⟨hx, hz⟩, by decide, .inr ⟨rfl, .inr (.inr (.inr (.inr ⟨rfl, hs, by simp⟩)))⟩⟩
    | more n x =>
      unfold pF
      cases l with
      | nil => exact ⟨⟨_, rfl, hp⟩, h⟩
      | cons t r =>
        refine gr_if (fun hs => gr_bnd (ih (.lev (n + 1)) _ _ trivial h.tail) fun ys r' hy hr' => ?_) fun _ => ⟨⟨_, rfl, hp⟩, h⟩
        obtain ⟨y, rfl, hy⟩ := hy
        exact ih (.more n (.mk (if n = 3 then 4 else 3) x.place t.s 0 [] [x, y])) d r' (on_bin hs hp hy x.place) hr'
    | args xs =>
      unfold pF
      cases l with
      | nil => exact ⟨⟨[], by simp, trivial⟩, h⟩
      | cons t r =>
        refine gr_if (fun hs => gr_bnd (ih (.lev 0) _ _ trivial h.tail) fun ys r' hy hr' => ?_) fun _ => ⟨⟨[], by simp, trivial⟩, h⟩
        obtain ⟨y, rfl, hy⟩ := hy
        refine gr_mono (ih (.args (xs ++ [y])) d r' trivial hr') fun zs hz => ?_
        obtain ⟨us, rfl, hu⟩ := hz
        exact ⟨y :: us, by simp, hy, hu⟩
    | fin k a s ps =>
      unfold pF
      refine gr_bnd (ih (.lev 0) _ _ trivial h) fun xs r hx hr => gr_must hr fun r' hr' => ⟨?_, hr'⟩
      obtain ⟨x, rfl, hx⟩ := hx
      exact ⟨x, rfl, hx⟩
    | inner =>
      unfold pF
      cases l with
      | nil => trivial
      | cons t r =>
        refine gr_if (fun _ => gr_wrong _ _) fun _ => gr_if (fun hs => ?_) fun _ => gr_name h fun s r hs hr => gr_must hr fun r hr => ?_
        · refine gr_name h.tail fun s r hs hr => gr_must hr fun r hr => gr_bnd (ih (.lev 0) _ _ trivial hr) fun xs r hx hr => gr_must hr fun r hr => gr_bnd (ih (.lev 0) _ _ trivial hr) fun ys r hy hr => gr_must hr fun r hr => gr_bnd (ih (.inners (xs ++ ys)) _ _ trivial hr) fun zs r hz hr => ⟨?_, hr⟩
          obtain ⟨x, rfl, hx⟩ := hx
          obtain ⟨y, rfl, hy⟩ := hy
          obtain ⟨us, rfl, hu⟩ := hz
          refine ⟨_, rfl, ?_⟩
          unfold gS
          refine ⟨rfl, rfl, hs, .inr ⟨rfl, by simp, ?_⟩⟩
          show gA Q 2 (x :: y :: us)
          unfold gA
          refine ⟨hx, ?_⟩
          unfold gA
          exact ⟨hy, hu⟩
        · refine gr_mono (ih (.fin 10 t.at_ s []) d r trivial hr) fun zs hz => ?_
          obtain ⟨x, rfl, hx⟩ := hz
          refine ⟨_, rfl, ?_⟩
          unfold gS
          refine ⟨rfl, rfl, hs, .inl ⟨rfl, rfl, ?_⟩⟩
          unfold gA
          exact ⟨hx, by unfold gA; trivial⟩
    | inners zs =>
      unfold pF
      cases l with
      | nil => trivial
      | cons t r =>
        refine gr_if (fun _ => ⟨⟨[], by simp, by unfold gA; trivial⟩, h.tail⟩) fun _ => gr_bnd (ih .inner _ _ trivial h) fun xs r' hx hr' => ?_
        obtain ⟨x, rfl, hx⟩ := hx
        refine gr_mono (ih (.inners (zs ++ [x])) d r' trivial hr') fun ys hz => ?_
        obtain ⟨us, rfl, hu⟩ := hz
        exact ⟨x :: us, by simp, by unfold gA; exact ⟨hx, hu⟩⟩
    | stmt =>
      unfold pF
      cases l with
      | nil => trivial
      | cons t r =>
        have fin : ∀ (k : Nat) (s : Bs) (ps : List Bs) (r : List Tk), TQ Q r → (∀ x, gE Q x → gT Q (.mk k t.at_ s 0 ps [x])) → Gr Q (gN Q .stmt) (pF num f (.fin k t.at_ s ps) d r) := fun k s ps r hr hk => by
          refine gr_mono (ih (.fin k t.at_ s ps) d r trivial hr) fun zs hz => ?_
          obtain ⟨x, rfl, hx⟩ := hz
          exact ⟨_, rfl, hk x hx⟩
        refine gr_if (fun _ => ?_) fun _ => gr_if (fun _ => ?_) fun _ => gr_if (fun _ => ?_) fun _ => gr_if (fun _ => ?_) fun _ => gr_if (fun _ => ?_) fun _ => ?_
        · exact gr_names (fun ps r h0 hq hr => gr_must hr fun r hr => gr_ok ⟨_, rfl, by unfold gT; exact .inr ⟨rfl, .inl ⟨.inl rfl, rfl, rfl, h0, hq⟩⟩⟩ hr) [] r (by simp) h.tail
        · exact gr_names (fun ps r h0 hq hr => gr_must hr fun r hr => gr_ok ⟨_, rfl, by unfold gT; exact .inr ⟨rfl, .inl ⟨.inr rfl, rfl, rfl, h0, hq⟩⟩⟩ hr) [] r (by simp) h.tail
        · exact gr_name h.tail fun s r hs hr => gr_must hr fun r hr => fin 8 s [] r hr fun x hx => by unfold gT; exact .inr ⟨rfl, .inr (.inl ⟨.inl rfl, rfl, hs, x, rfl, hx⟩)⟩
        · exact gr_name h.tail fun s r hs hr => gr_must hr fun r hr => fin 9 s [] r hr fun x hx => by unfold gT; exact .inr ⟨rfl, .inr (.inl ⟨.inr rfl, rfl, hs, x, rfl, hx⟩)⟩
        · exact gr_name h.tail fun s r hs hr => gr_must hr fun r hr => gr_names (fun ps r h0 hq hr => gr_must hr fun r hr => gr_must hr fun r hr => fin 12 s ps r hr fun x hx => by unfold gT; exact .inr ⟨rfl, .inr (.inr ⟨rfl, h0, hq, hs, x, rfl, hx⟩)⟩) [] r (by simp) hr
        · refine gr_mono (ih .inner 0 (t :: r) trivial h) fun zs hz => ?_
          obtain ⟨x, rfl, hx⟩ := hz
          refine ⟨x, rfl, ?_⟩
          cases x
          unfold gT; exact .inl hx
    | stmts xs =>
      unfold pF
      cases l with
      | nil => trivial
      | cons t r =>
        refine gr_if (fun _ => ⟨⟨[], by simp, by simp⟩, h⟩) fun _ => gr_bnd (ih .stmt _ _ trivial h) fun ys r' hy hr' => ?_
        obtain ⟨y, rfl, hy⟩ := hy
        refine gr_mono (ih (.stmts (xs ++ [y])) d r' trivial hr') fun zs hz => ?_
        obtain ⟨us, rfl, hu⟩ := hz
        refine ⟨y :: us, by simp, fun z hz => ?_⟩
        rcases List.mem_cons.1 hz with rfl | hz
        · exact hy
        · exact hu z hz
end Go.Proofs.YtokfmclbninkmaaGreatDoor.Pa
/- DERIVED. Trees of the grammar's shape; statements' texts as the reference has them; texts that are cut off; how many nodes may be left. Of no program. By an AI agent. -/
namespace Go.Proofs.YtokfmclbninkmaaGreatDoor.Sh
open Lx Pa
mutual
/-- An expression's kinds and numbers of parts. -/
def shE : Tz → Prop
  | .mk k _ _ _ _ l => (k = 0 ∨ k = 1 ∨ (k = 2 ∧ l.length = 1) ∨ ((k = 3 ∨ k = 4) ∧ l.length = 2) ∨ k = 5) ∧ shEs l
def shEs : List Tz → Prop
  | [] => True
  | x :: l => shE x ∧ shEs l
end
mutual
def shS : Tz → Prop
  | .mk k _ _ _ _ l => ((k = 6 ∨ k = 7) ∧ l = []) ∨ ((k = 8 ∨ k = 9 ∨ k = 10 ∨ k = 12) ∧ l.length = 1 ∧ shEs l) ∨ (k = 11 ∧ 2 ≤ l.length ∧ shA 2 l)
/-- So many expressions, then statements. -/
def shA : Nat → List Tz → Prop
  | _, [] => True
  | 0, x :: l => shS x ∧ shA 0 l
  | i + 1, x :: l => shE x ∧ shA i l
end
def shP : Tz → Prop
  | .mk k _ _ _ _ l => k = 13 ∧ shA 0 l
mutual
/-- A statement's text, as the reference has it. -/
def stT (dec : Nat → Bs) : Tz → Bs
  | .mk k _ s _ ps l =>
    if k = 6 then [115, 101, 99, 114, 101, 116, 32] ++ naT true ps ++ [59]
    else if k = 7 then [112, 117, 98, 108, 105, 99, 32] ++ naT true ps ++ [59]
    else if k = 11 then (if l.length < 2 then [63] else [102, 111, 114, 32] ++ s ++ [32, 105, 110, 32] ++ foT dec 2 l ++ [32, 125])
    else (if k = 12 then [102, 110, 32] ++ (if k = 9 then [115, 104, 111, 119, 32] ++ (if k = 8 then [111, 117, 116, 32] ++ s else s) else (if k = 8 then [111, 117, 116, 32] ++ s else s)) ++ [40] ++ naT true ps ++ [41]
      else if k = 9 then [115, 104, 111, 119, 32] ++ (if k = 8 then [111, 117, 116, 32] ++ s else s) else if k = 8 then [111, 117, 116, 32] ++ s else s) ++ [32, 61, 32] ++ liT dec [] false true l ++ [59]
/-- A for's parts: so many expressions, then statements. -/
def foT (dec : Nat → Bs) : Nat → List Tz → Bs
  | _, [] => []
  | 0, x :: l => [32] ++ stT dec x ++ foT dec 0 l
  | 1, x :: l => exT dec x ++ [32, 123] ++ foT dec 0 l
  | _ + 2, x :: l => exT dec x ++ [32, 46, 46, 32] ++ foT dec 1 l
end
def prTs (dec : Nat → Bs) : List Tz → Bs
  | [] => []
  | x :: l => stT dec x ++ [10] ++ prTs dec l
def prT (dec : Nat → Bs) : Tz → Bs
  | .mk _ _ _ _ _ l => prTs dec l
/-- r is acc and t behind it, if that is not too long; else r is too long. -/
def Cut (acc t r : Bs) : Prop := (acc.length + t.length ≤ 20000 → r = acc ++ t) ∧ (20000 < acc.length + t.length → 20000 < r.length)
theorem Cut.nil (acc : Bs) : Cut acc [] acc := ⟨fun _ => by simp, fun h => by simpa using h⟩
theorem Cut.trans {acc t1 r1 t2 r2 : Bs} (h1 : Cut acc t1 r1) (h2 : Cut r1 t2 r2) : Cut acc (t1 ++ t2) r2 := by
  unfold Cut at *
  rw [List.length_append]
  refine ⟨fun h => ?_, fun h => ?_⟩
  · have e1 := h1.1 (by omega)
    have e2 := h2.1 (by rw [e1, List.length_append]; omega)
    rw [e2, e1, List.append_assoc]
  · by_cases hh : acc.length + t1.length ≤ 20000
    · have e1 := h1.1 hh
      exact h2.2 (by rw [e1, List.length_append]; omega)
    · have := h1.2 (by omega)
      exact h2.2 (by omega)
theorem Cut.put (acc s : Bs) : Cut acc s (acc ++ s) := ⟨fun _ => rfl, fun h => by rw [List.length_append]; exact h⟩
theorem Cut.skip {acc : Bs} (s : Bs) (h : 20000 < acc.length) : Cut acc s acc := ⟨fun hh => by omega, fun _ => h⟩
theorem Cut.eq {acc t t' r : Bs} (h : Cut acc t r) (e : t = t') : Cut acc t' r := by rw [← e]; exact h
/-- How many parts the text of that kind is made of, at least. -/
def leastV (k : Int) : Nat := if k = 3 ∨ k = 4 ∨ k = 11 then 2 else if k = 2 ∨ k = 8 ∨ k = 9 ∨ k = 10 ∨ k = 12 then 1 else 0
mutual
/-- Each node has the parts that its text is made of. -/
def ls : Tz → Bool
  | .mk k _ _ _ _ l => decide (leastV k ≤ l.length) && lss l
def lss : List Tz → Bool
  | [] => true
  | x :: l => ls x && lss l
end
mutual
/-- How many of so many nodes are left behind a tree. -/
def rm (nodes levels : Nat) : Tz → Option Nat
  | .mk k _ _ _ _ l => if nodes = 0 ∨ levels = 0 ∨ l.length < leastV k then none else rms (nodes - 1) (levels - 1) l
def rms (nodes levels : Nat) : List Tz → Option Nat
  | [] => some nodes
  | x :: l => match rm nodes levels x with
    | none => none
    | some n => rms n levels l
end
mutual
theorem rm_spec : ∀ (z : Tz) (nodes levels : Nat), (cntz z ≤ nodes ∧ depz z ≤ levels ∧ ls z = true → rm nodes levels z = some (nodes - cntz z)) ∧ (¬ (cntz z ≤ nodes ∧ depz z ≤ levels ∧ ls z = true) → rm nodes levels z = none)
  | .mk k _ _ _ _ l, nodes, levels => by
    unfold rm cntz depz ls
    simp only [Bool.and_eq_true, decide_eq_true_eq]
    by_cases h0 : nodes = 0 ∨ levels = 0 ∨ l.length < leastV k
    · rw [if_pos h0]
      exact ⟨fun a => by omega, fun _ => rfl⟩
    · rw [if_neg h0]
      have h := rms_spec l (nodes - 1) (levels - 1)
      refine ⟨fun a => ?_, fun hn => h.2 fun hh => hn ⟨by omega, by omega, by omega, hh.2.2⟩⟩
      rw [h.1 ⟨by omega, by omega, a.2.2.2⟩]
      congr 1
      omega
theorem rms_spec : ∀ (l : List Tz) (nodes levels : Nat), (cnts l ≤ nodes ∧ deps l ≤ levels ∧ lss l = true → rms nodes levels l = some (nodes - cnts l)) ∧ (¬ (cnts l ≤ nodes ∧ deps l ≤ levels ∧ lss l = true) → rms nodes levels l = none)
  | [], nodes, levels => by
    unfold rms cnts deps lss
    exact ⟨fun _ => rfl, fun hn => absurd ⟨by omega, by omega, rfl⟩ hn⟩
  | x :: l, nodes, levels => by
    unfold rms cnts deps lss
    simp only [Bool.and_eq_true]
    have h1 := rm_spec x nodes levels
    by_cases hx : cntz x ≤ nodes ∧ depz x ≤ levels ∧ ls x = true
    · rw [h1.1 hx]
      have h2 := rms_spec l (nodes - cntz x) levels
      refine ⟨fun a => ?_, fun hn => h2.2 fun hh => hn ⟨by omega, by omega, hx.2.2, hh.2.2⟩⟩
      simp only
      rw [h2.1 ⟨by omega, by omega, a.2.2.2⟩]
      congr 1
      omega
    · rw [h1.2 hx]
      exact ⟨fun a => absurd ⟨by omega, by omega, a.2.2.1⟩ hx, fun _ => rfl⟩
end
theorem shA_app : ∀ {i : Nat} {l : List Tz}, shA i l → l.length = i → shEs l
  | _, [], _, _ => trivial
  | 0, x :: l, _, h => by simp at h
  | i + 1, x :: l, h, hl => by
    unfold shA at h
    unfold shEs
    exact ⟨h.1, shA_app h.2 (by simpa using hl)⟩
mutual
theorem made_E {Q : Bs → Prop} : ∀ {x : Tr} {z : Tz}, gE Q x → sameB (embz x) z = true → shE z
  | .mk k a s n ps l, .mk k' a' s' n' ps' l', h, hs => by
    unfold gE at h
    unfold embz sameB at hs
    simp only [Bool.and_eq_true, decide_eq_true_eq] at hs
    obtain ⟨⟨⟨⟨hk, _⟩, _⟩, _⟩, hl⟩ := hs
    have hlen := same_len hl
    rw [embs_len] at hlen
    unfold shE
    refine ⟨?_, made_Es h.2.1 hl⟩
    subst hk
    rcases h.2.2.2 with ⟨rfl, _⟩ | ⟨_, ⟨rfl, _⟩ | ⟨rfl, _, h2⟩ | ⟨rfl, _, h2⟩ | ⟨rfl, _, h2⟩ | ⟨rfl, _⟩⟩
    · exact .inl rfl
    · exact .inr (.inl rfl)
    · exact .inr (.inr (.inl ⟨rfl, by omega⟩))
    · exact .inr (.inr (.inr (.inl ⟨.inl rfl, by omega⟩)))
    · exact .inr (.inr (.inr (.inl ⟨.inr rfl, by omega⟩)))
    · exact .inr (.inr (.inr (.inr rfl)))
theorem made_Es {Q : Bs → Prop} : ∀ {l : List Tr} {m : List Tz}, gEs Q l → sameBs (embs l) m = true → shEs m
  | [], [], _, _ => trivial
  | [], _ :: _, _, h => by unfold embs sameBs at h; cases h
  | _ :: _, [], _, h => by unfold embs sameBs at h; cases h
  | x :: l, y :: m, h, hs => by
    unfold gEs at h
    unfold embs sameBs at hs
    simp only [Bool.and_eq_true] at hs
    unfold shEs
    exact ⟨made_E h.1 hs.1, made_Es h.2 hs.2⟩
theorem same_len : ∀ {l m : List Tz}, sameBs l m = true → l.length = m.length
  | [], [], _ => rfl
  | [], _ :: _, h => by unfold sameBs at h; cases h
  | _ :: _, [], h => by unfold sameBs at h; cases h
  | x :: l, y :: m, h => by
    unfold sameBs at h
    simp only [Bool.and_eq_true] at h
    simp [same_len h.2]
end
mutual
theorem made_S {Q : Bs → Prop} : ∀ {x : Tr} {z : Tz}, gS Q x → sameB (embz x) z = true → shS z
  | .mk k a s n ps l, .mk k' a' s' n' ps' l', h, hs => by
    unfold gS at h
    unfold embz sameB at hs
    simp only [Bool.and_eq_true, decide_eq_true_eq] at hs
    obtain ⟨⟨⟨⟨hk, _⟩, _⟩, _⟩, hl⟩ := hs
    have hlen := same_len hl
    rw [embs_len] at hlen
    subst hk
    unfold shS
    rcases h.2.2.2 with ⟨rfl, h1, h2⟩ | ⟨rfl, h1, h2⟩
    · exact .inr (.inl ⟨.inr (.inr (.inl rfl)), by omega, shA_app (made_A h2 hl) (by omega)⟩)
    · exact .inr (.inr ⟨rfl, by omega, made_A h2 hl⟩)
theorem made_A {Q : Bs → Prop} : ∀ {i : Nat} {l : List Tr} {m : List Tz}, gA Q i l → sameBs (embs l) m = true → shA i m
  | _, [], [], _, _ => by unfold shA; trivial
  | _, [], _ :: _, _, h => by unfold embs sameBs at h; cases h
  | _, _ :: _, [], _, h => by unfold embs sameBs at h; cases h
  | 0, x :: l, y :: m, h, hs => by
    unfold gA at h
    unfold embs sameBs at hs
    simp only [Bool.and_eq_true] at hs
    unfold shA
    exact ⟨made_S h.1 hs.1, made_A h.2 hs.2⟩
  | i + 1, x :: l, y :: m, h, hs => by
    unfold gA at h
    unfold embs sameBs at hs
    simp only [Bool.and_eq_true] at hs
    unfold shA
    exact ⟨made_E h.1 hs.1, made_A h.2 hs.2⟩
end
theorem made_T {Q : Bs → Prop} {x : Tr} {z : Tz} (h : gT Q x) (hs : sameB (embz x) z = true) : shS z := by
  obtain ⟨k, a, s, n, ps, l⟩ := x
  unfold gT at h
  rcases h with h | ⟨_, h⟩
  · exact made_S h hs
  · obtain ⟨k', a', s', n', ps', l'⟩ := z
    unfold embz sameB at hs
    simp only [Bool.and_eq_true, decide_eq_true_eq] at hs
    obtain ⟨⟨⟨⟨hk, _⟩, _⟩, _⟩, hl⟩ := hs
    have hlen := same_len hl
    rw [embs_len] at hlen
    subst hk
    unfold shS
    rcases h with ⟨hk, _, rfl, _⟩ | ⟨hk, _, _, y, rfl, hy⟩ | ⟨rfl, _, _, _, y, rfl, hy⟩
    · refine .inl ⟨?_, List.eq_nil_of_length_eq_zero (by simpa using hlen.symm)⟩
      rcases hk with rfl | rfl
      · exact .inl rfl
      · exact .inr rfl
    · refine .inr (.inl ⟨?_, by simpa using hlen.symm, made_Es (l := [y]) ⟨hy, trivial⟩ hl⟩)
      rcases hk with rfl | rfl
      · exact .inl rfl
      · exact .inr (.inl rfl)
    · exact .inr (.inl ⟨.inr (.inr (.inr rfl)), by simpa using hlen.symm, made_Es (l := [y]) ⟨hy, trivial⟩ hl⟩)
theorem made_Ts {Q : Bs → Prop} : ∀ {l : List Tr} {m : List Tz}, (∀ y ∈ l, gT Q y) → sameBs (embs l) m = true → shA 0 m
  | [], [], _, _ => by unfold shA; trivial
  | [], _ :: _, _, h => by unfold embs sameBs at h; cases h
  | _ :: _, [], _, h => by unfold embs sameBs at h; cases h
  | x :: l, y :: m, h, hs => by
    unfold embs sameBs at hs
    simp only [Bool.and_eq_true] at hs
    unfold shA
    exact ⟨made_T (h x (List.mem_cons_self ..)) hs.1, made_Ts (fun y hy => h y (List.mem_cons_of_mem _ hy)) hs.2⟩
mutual
/-- What has the grammar's shape has the parts that its text is made of. -/
theorem shE_ls : ∀ {z : Tz}, shE z → ls z = true
  | .mk k _ _ _ _ l, h => by
    unfold shE at h
    unfold ls
    simp only [Bool.and_eq_true, decide_eq_true_eq]
    refine ⟨?_, shEs_ls h.2⟩
    rcases h.1 with rfl | rfl | ⟨rfl, h⟩ | ⟨rfl | rfl, h⟩ | rfl
    all_goals (unfold leastV; simp; try omega)
theorem shEs_ls : ∀ {l : List Tz}, shEs l → lss l = true
  | [], _ => rfl
  | x :: l, h => by
    unfold shEs at h
    unfold lss
    simp only [Bool.and_eq_true]
    exact ⟨shE_ls h.1, shEs_ls h.2⟩
end
mutual
theorem shS_ls : ∀ {z : Tz}, shS z → ls z = true
  | .mk k _ _ _ _ l, h => by
    unfold shS at h
    unfold ls
    simp only [Bool.and_eq_true, decide_eq_true_eq]
    rcases h with ⟨hk, rfl⟩ | ⟨hk, h1, h2⟩ | ⟨rfl, h1, h2⟩
    · refine ⟨?_, rfl⟩
      rcases hk with rfl | rfl
      all_goals (unfold leastV; simp)
    · refine ⟨?_, shEs_ls h2⟩
      rcases hk with rfl | rfl | rfl | rfl
      all_goals (unfold leastV; simp; omega)
    · exact ⟨by unfold leastV; simpa using h1, shA_ls h2⟩
theorem shA_ls : ∀ {i : Nat} {l : List Tz}, shA i l → lss l = true
  | _, [], _ => rfl
  | 0, x :: l, h => by
    unfold shA at h
    unfold lss
    simp only [Bool.and_eq_true]
    exact ⟨shS_ls h.1, shA_ls h.2⟩
  | i + 1, x :: l, h => by
    unfold shA at h
    unfold lss
    simp only [Bool.and_eq_true]
    exact ⟨shE_ls h.1, shA_ls h.2⟩
end
theorem shP_ls {z : Tz} (h : shP z) : ls z = true := by
  obtain ⟨k, a, s, n, ps, l⟩ := z
  unfold shP at h
  unfold ls
  simp only [Bool.and_eq_true, decide_eq_true_eq]
  obtain ⟨rfl, h⟩ := h
  exact ⟨by unfold leastV; simp, shA_ls h⟩
end Go.Proofs.YtokfmclbninkmaaGreatDoor.Sh
