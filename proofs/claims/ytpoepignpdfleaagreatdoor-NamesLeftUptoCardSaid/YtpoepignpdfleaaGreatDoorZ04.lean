/- DERIVED. ShArg, ShPl, NmSpec, PaSk, PaMo, ShMade in one text. By an AI agent. -/
import Derived.Test.YtpoepignpdfleaaGreatDoorRows
import Derived.Test.YtpoepignpdfleaaGreatDoorZ03
import Derived.ProofKit
import Derived.OpenShut
import Derived.Test.YtpoepignpdfleaaGreatDoorZ02
/- DERIVED. Trees that came in by value: what lies where, and how much that is. By an AI agent. -/
namespace Go.Proofs.YtpoepignpdfleaaGreatDoor.Sh
open Go Go.ChangeShapes Go.WideShapes Go.ChangeAt Go.RowKit Lx Args Pa
set_option linter.unusedVariables false
set_option linter.unusedSimpArgs false
inductive Tz
  | mk (k a : Int) (s : Bs) (n : Nat) (ps : List Bs) (l : List Tz)
/-- A node's six cells. -/
def nzC (k a : Int) (s : Bs) (n : Nat) (A : Option Addr) (la cA : Nat) (B : Option Addr) (lb cB : Nat) : List Value :=
  [.int .i64 k, .string ⟨s.toArray⟩, .int .u32 (n : Int), .int .i64 a, .slice A la cA, .slice B lb cB]
mutual
/-- A tree's six cells, and what stands behind them. -/
def TIc (q : Prop) (w : World) : Tz → List Value → Prop
  | .mk k a s n ps l, cs => ∃ A cA B cB, cs = nzC k a s n A l.length cA B ps.length cB ∧ l.length ≤ maxLen ∧ ps.length ≤ maxLen ∧ Lies w B (ps.map strV) ∧
      ∃ css, Lies w A css.flatten ∧ TsIc q w l css ∧ (q → l.length ≤ cA ∧ cA ≤ maxLen)
def TsIc (q : Prop) (w : World) : List Tz → List (List Value) → Prop
  | [], css => css = []
  | x :: l, css => ∃ c r, css = c :: r ∧ TIc q w x c ∧ TsIc q w l r
end
abbrev TIz (w : World) : Tz → List Value → Prop := TIc False w
abbrev TsIz (w : World) : List Tz → List (List Value) → Prop := TsIc False w
mutual
/-- Numbers are of 32 bits. -/
def nz : Tz → Prop
  | .mk _ _ _ n _ l => n < 4294967296 ∧ nzs l
def nzs : List Tz → Prop
  | [] => True
  | x :: l => nz x ∧ nzs l
end
def bps : List Bs → Nat
  | [] => 0
  | p :: ps => p.length + 1 + bps ps
mutual
/-- How much a tree is: its nodes, names and their letters. -/
def bz : Tz → Nat
  | .mk _ _ s _ ps l => s.length + bps ps + bzs l + 1
def bzs : List Tz → Nat
  | [] => 0
  | x :: l => bz x + bzs l
end
theorem cNd : Tryz.prog.cellsOf 26 = 6 := by kernel_rfl
theorem cIn : Tryz.prog.cellsOf 3 = 1 := by kernel_rfl
theorem cSt : Tryz.prog.cellsOf 9 = 1 := by kernel_rfl
theorem cU : Tryz.prog.cellsOf 22 = 1 := by kernel_rfl
theorem cSl : Tryz.prog.cellsOf 23 = 1 := by kernel_rfl
theorem cSs : Tryz.prog.cellsOf 24 = 1 := by kernel_rfl
theorem uIn : Tryz.prog.underlying 3 = some (.int .i64) := by kernel_rfl
theorem uSt : Tryz.prog.underlying 9 = some .string := by kernel_rfl
theorem uU : Tryz.prog.underlying 22 = some (.int .u32) := by kernel_rfl
theorem uSl : Tryz.prog.underlying 23 = some (.slice 26) := by kernel_rfl
theorem uSs : Tryz.prog.underlying 24 = some (.slice 9) := by kernel_rfl
section
variable {H : Type} {enc : TypeId × Value → H} {w : World} {base : Nat} {spare : Nat → Bool} {held : Bool}
theorem strs_in {n len : Nat} {a : Addr} {elems : List (DataW H × List MemPlace)} (hlen : elems.length = len)
    (hel : ∀ i, i < len → (w.cells? base (a.add (i * 1)) 1).bind (DataW.trod enc Tryz.prog w base spare held n 9) = elems[i]?) :
    ∀ m i, i + m = len → ∃ ps : List Bs, ps.length = m ∧ (∀ j u, (ps.map strV)[j]? = some u → w.cell? (a.add (i + j)) = some u) ∧ bps ps ≤ Rows.uptoBulkAll ((elems.drop i).map (·.1)) := by
  intro m
  induction m with
  | zero => intro i hi; exact ⟨[], rfl, fun j u h => by simp at h, Nat.zero_le _⟩
  | succ m ih =>
    intro i hi
    obtain ⟨ps, h1, h2, h3⟩ := ih (i + 1) (by omega)
    have h := hel i (by omega)
    have hei : elems[i]? = some (elems[i]'(by omega)) := List.getElem?_eq_getElem (by omega)
    rw [hei, Option.bind_eq_some_iff] at h
    obtain ⟨c1, hc1, ht1⟩ := h
    obtain ⟨hcb, hcl, hat⟩ := World.cells?_some hc1
    match c1, hcl with
    | [x0], _ =>
      obtain ⟨s, e0, d0, _⟩ := DataW.trod_string uSt ht1
      simp only [List.cons.injEq, and_true] at e0
      subst e0
      have a0 := hat 0 (by omega)
      rw [add0, Nat.mul_one] at a0
      refine ⟨s.data.toList :: ps, by simp [h1], fun j u hj => ?_, ?_⟩
      · cases j with
        | zero =>
          have : u = .string s := by simpa [strV] using hj.symm
          rw [this]; exact a0
        | succ j =>
          rw [show i + (j + 1) = i + 1 + j by omega]
          exact h2 j u (by simpa using hj)
      · rw [List.drop_eq_getElem_cons (by omega), List.map_cons]
        simp only [Rows.uptoBulkAll, bps]
        rw [d0]
        simp only [Rows.uptoBulk]
        omega
theorem nodes_in {n len : Nat} {a : Addr} {elems : List (DataW H × List MemPlace)} (hlen : elems.length = len)
    (hel : ∀ i, i < len → (w.cells? base (a.add (i * 6)) 6).bind (DataW.trod enc Tryz.prog w base spare held n 26) = elems[i]?)
    (IH : ∀ (cs : List Value) (x : DataW H × List MemPlace), DataW.trod enc Tryz.prog w base spare held n 26 cs = some x → ∃ z, TIc True w z cs ∧ nz z ∧ bz z ≤ Rows.uptoBulk x.1) :
    ∀ m i, i + m = len → ∃ (l : List Tz) (css : List (List Value)), l.length = m ∧ (TsIc True w l css ∧ nzs l) ∧ (∀ j u, css.flatten[j]? = some u → w.cell? (a.add (i * 6 + j)) = some u) ∧ bzs l ≤ Rows.uptoBulkAll ((elems.drop i).map (·.1)) := by
  intro m
  induction m with
  | zero => intro i hi; exact ⟨[], [], rfl, ⟨by unfold TsIc; rfl, trivial⟩, fun j u h => by simp at h, Nat.zero_le _⟩
  | succ m ih =>
    intro i hi
    obtain ⟨l, css, h1, ⟨hT, hN⟩, h2, h3⟩ := ih (i + 1) (by omega)
    have h := hel i (by omega)
    have hei : elems[i]? = some (elems[i]'(by omega)) := List.getElem?_eq_getElem (by omega)
    rw [hei, Option.bind_eq_some_iff] at h
    obtain ⟨c1, hc1, ht1⟩ := h
    obtain ⟨hcb, hcl, hat⟩ := World.cells?_some hc1
    obtain ⟨z, hz, hn, hb⟩ := IH c1 _ ht1
    refine ⟨z :: l, c1 :: css, by simp [h1], ⟨by unfold TsIc; exact ⟨c1, css, rfl, hz, hT⟩, by unfold nzs; exact ⟨hn, hN⟩⟩, fun j u hj => ?_, ?_⟩
    · rw [List.flatten_cons] at hj
      by_cases h6 : j < 6
      · rw [List.getElem?_append_left (by omega)] at hj
        have a0 := hat j (by omega)
        rw [add_add] at a0
        rw [← hj]
        exact a0
      · rw [List.getElem?_append_right (by omega), hcl] at hj
        have := h2 _ u hj
        rw [show i * 6 + j = (i + 1) * 6 + (j - 6) by omega]
        exact this
    · rw [List.drop_eq_getElem_cons (by omega), List.map_cons]
      simp only [Rows.uptoBulkAll, bzs]
      omega
set_option maxRecDepth 100000 in
/-- What lies in a node's cells. -/
theorem node_in : ∀ (fuel : Nat) (cs : List Value) (x : DataW H × List MemPlace), DataW.trod enc Tryz.prog w base spare held fuel 26 cs = some x → ∃ z, TIc True w z cs ∧ nz z ∧ bz z ≤ Rows.uptoBulk x.1 := by
  intro fuel
  induction fuel using Nat.strongRecOn with
  | ind fuel IH =>
    intro cs x h
    obtain ⟨xs, n, hn, hx, hlen, hxl, hg⟩ := DataW.trod_struct Tryz.underlying26 h
    rw [cNd] at hlen
    match cs, hlen, xs, hxl with
    | [q0, q1, q2, q3, q4, q5], _, [y0, y1, y2, y3, y4, y5], _ =>
      have g0 := hg 0 _ rfl; have g1 := hg 1 _ rfl; have g2 := hg 2 _ rfl; have g3 := hg 3 _ rfl; have g4 := hg 4 _ rfl; have g5 := hg 5 _ rfl
      simp [cIn, cSt, cU, cSl, cSs] at g0 g1 g2 g3 g4 g5
      obtain ⟨k, e0, d0, wk⟩ := DataW.trod_int uIn g0
      obtain ⟨s, e1, d1, _⟩ := DataW.trod_string uSt g1
      obtain ⟨v, e2, d2, wv⟩ := DataW.trod_int uU g2
      obtain ⟨a, e3, d3, wa⟩ := DataW.trod_int uIn g3
      simp only [List.cons.injEq, and_true] at e0 e1 e2 e3
      subst e0 e1 e2 e3
      have hv := bounds_u32 wv
      obtain ⟨m, rfl⟩ : ∃ m : Nat, v = (m : Int) := ⟨v.toNat, by omega⟩
      have hS : ∃ (l : List Tz) (A : Option Addr) (cA : Nat) (css : List (List Value)), q4 = .slice A l.length cA ∧ l.length ≤ maxLen ∧ nzs l ∧ Lies w A css.flatten ∧ TsIc True w l css ∧ (l.length ≤ cA ∧ cA ≤ maxLen) ∧ bzs l ≤ Rows.uptoBulk y4.1 := by
        rcases DataW.trod_slice uSl g4 with ⟨e, _⟩ | ⟨a, len, cap, elems, rest, n', hn', e, hy, hbl, hl, hm, hle, hel, hsp, hns⟩
        · simp only [List.cons.injEq, and_true] at e
          subst e
          exact ⟨[], none, 0, [], rfl, by decide, trivial, Lies.nil _ _, by unfold TsIc; rfl, ⟨Nat.le_refl _, by decide⟩, Nat.zero_le _⟩
        · simp only [List.cons.injEq, and_true] at e
          subst e
          rw [cNd] at hel
          obtain ⟨l, css, h1, ⟨h2, hN⟩, h3, h4⟩ := nodes_in hle hel (IH n' (by omega)) len 0 (by omega)
          refine ⟨l, some a, cap, css, by rw [h1], by omega, hN, fun j u hj => ⟨a, rfl, ?_⟩, h2, ⟨by omega, hm⟩, ?_⟩
          · have := h3 j u hj
            rwa [show 0 * 6 + j = j by omega] at this
          · rw [hy]
            simp only [Rows.uptoBulk]
            simp only [List.drop_zero] at h4
            omega
      have hP : ∃ (ps : List Bs) (B : Option Addr) (cB : Nat), q5 = .slice B ps.length cB ∧ ps.length ≤ maxLen ∧ Lies w B (ps.map strV) ∧ bps ps ≤ Rows.uptoBulk y5.1 := by
        rcases DataW.trod_slice uSs g5 with ⟨e, _⟩ | ⟨a, len, cap, elems, rest, n', hn', e, hy, hbl, hl, hm, hle, hel, hsp, hns⟩
        · simp only [List.cons.injEq, and_true] at e
          subst e
          exact ⟨[], none, 0, rfl, by decide, Lies.nil _ _, Nat.zero_le _⟩
        · simp only [List.cons.injEq, and_true] at e
          subst e
          rw [cSt] at hel
          obtain ⟨ps, h1, h3, h4⟩ := strs_in hle hel len 0 (by omega)
          refine ⟨ps, some a, cap, by rw [h1], by omega, fun j u hj => ⟨a, rfl, ?_⟩, ?_⟩
          · have := h3 j u hj
            rwa [Nat.zero_add] at this
          · rw [hy]
            simp only [Rows.uptoBulk]
            simp only [List.drop_zero] at h4
            omega
      obtain ⟨l, A, cA, css, rfl, hlA, hnA, hLA, hTA, hcA, hbA⟩ := hS
      obtain ⟨ps, B, cB, rfl, hlB, hLB, hbB⟩ := hP
      refine ⟨.mk k a s.data.toList m ps l, ?_, ?_, ?_⟩
      · unfold TIc
        exact ⟨A, cA, B, cB, rfl, hlA, hlB, hLB, css, hLA, hTA, fun _ => hcA⟩
      · unfold nz; exact ⟨by omega, hnA⟩
      · rw [hx]
        simp only [List.map_cons, List.map_nil, Rows.uptoBulk, Rows.uptoBulkAll, bz]
        rw [d1]
        simp only [Rows.uptoBulk]
        omega
set_option maxRecDepth 100000 in
/-- A node that came in by value. -/
theorem node_of {r : Reach} {b0 : Nat} {v : Value} {d : DataW H} {p : List MemPlace} (hv : Value.okWide Tryz.prog w r b0 26 v) (h : DataW.Trod enc Tryz.prog w base spare held 26 v d p) :
    ∃ z cs, v = .agg cs.toArray ∧ TIc True w z cs ∧ nz z ∧ bz z ≤ Rows.uptoBulk d := by
  obtain ⟨cs, rfl, _⟩ := okWide_struct Tryz.underlying26 hv
  obtain ⟨fuel, hf⟩ := h
  obtain ⟨z, h1, h2, h3⟩ := node_in fuel _ _ hf
  exact ⟨z, _, by simp [Value.cells], h1, h2, h3⟩
end
end Go.Proofs.YtpoepignpdfleaaGreatDoor.Sh
/- DERIVED. Trees of any kind, plainly: how many nodes, how deep, the same but for places, their texts as the reference has them. Of no program. By an AI agent. -/
namespace Go.Proofs.YtpoepignpdfleaaGreatDoor.Sh
open Lx Pa
mutual
def cntz : Tz → Nat
  | .mk _ _ _ _ _ l => 1 + cnts l
def cnts : List Tz → Nat
  | [] => 0
  | x :: l => cntz x + cnts l
end
mutual
def depz : Tz → Nat
  | .mk _ _ _ _ _ l => 1 + deps l
def deps : List Tz → Nat
  | [] => 0
  | x :: l => max (depz x) (deps l)
end
mutual
/-- How many nodes there are, up to one more than most; no deeper than deep. -/
def pa (deep most : Nat) : Tz → Nat
  | .mk _ _ _ _ _ l => if deep = 0 ∨ most = 0 then most + 1 else pas (deep - 1) most 1 l
def pas (deep most k : Nat) : List Tz → Nat
  | [] => k
  | x :: l => if k ≤ most then pas deep most (k + pa deep (most - k) x) l else k
end
theorem pas_over {deep most k : Nat} (h : most < k) : ∀ (l : List Tz), pas deep most k l = k
  | [] => by unfold pas; rfl
  | x :: l => by unfold pas; rw [if_neg (by omega)]
mutual
theorem pa_spec : ∀ (z : Tz) (deep most : Nat), (cntz z ≤ most → depz z ≤ deep → pa deep most z = cntz z) ∧ (¬ (cntz z ≤ most ∧ depz z ≤ deep) → most < pa deep most z)
  | .mk _ _ _ _ _ l, deep, most => by
    unfold pa cntz depz
    by_cases h0 : deep = 0 ∨ most = 0
    · rw [if_pos h0]
      exact ⟨fun a b => by omega, fun _ => by omega⟩
    · rw [if_neg h0]
      have h := pas_spec l (deep - 1) most 1 (by omega)
      exact ⟨fun a b => h.1 a (by omega), fun hn => h.2 fun hh => hn ⟨hh.1, by omega⟩⟩
theorem pas_spec : ∀ (l : List Tz) (deep most k : Nat), k ≤ most → (k + cnts l ≤ most → deps l ≤ deep → pas deep most k l = k + cnts l) ∧ (¬ (k + cnts l ≤ most ∧ deps l ≤ deep) → most < pas deep most k l)
  | [], deep, most, k, hk => by
    unfold pas cnts deps
    exact ⟨fun _ _ => rfl, fun hn => absurd ⟨by omega, by omega⟩ hn⟩
  | x :: l, deep, most, k, hk => by
    unfold pas cnts deps
    rw [if_pos hk]
    have h1 := pa_spec x deep (most - k)
    by_cases hx : cntz x ≤ most - k ∧ depz x ≤ deep
    · rw [h1.1 hx.1 hx.2]
      have h2 := pas_spec l deep most (k + cntz x) (by omega)
      exact ⟨fun a b => by rw [h2.1 (by omega) (by omega)]; omega, fun hn => h2.2 fun hh => hn ⟨by omega, by omega⟩⟩
    · have h3 := h1.2 hx
      rw [pas_over (by omega)]
      exact ⟨fun a b => absurd ⟨by omega, by omega⟩ hx, fun _ => by omega⟩
end
/-- Not too great to be gone through. -/
theorem small_iff (z : Tz) (deep most : Nat) : pa deep most z ≤ most ↔ cntz z ≤ most ∧ depz z ≤ deep := by
  have h := pa_spec z deep most
  constructor
  · intro hp
    by_cases hh : cntz z ≤ most ∧ depz z ≤ deep
    · exact hh
    · have := h.2 hh; omega
  · intro hh
    rw [h.1 hh.1 hh.2]; exact hh.1
mutual
def sameB : Tz → Tz → Bool
  | .mk k _ s n ps l, .mk k' _ s' n' ps' l' => decide (k = k') && (s == s') && decide (n = n') && (ps == ps') && sameBs l l'
def sameBs : List Tz → List Tz → Bool
  | [], [] => true
  | x :: l, y :: l' => sameB x y && sameBs l l'
  | _, _ => false
end
mutual
def embz : Tr → Tz
  | .mk k a s n ps l => .mk (k : Int) (a : Int) s n ps (embs l)
def embs : List Tr → List Tz
  | [] => []
  | x :: l => embz x :: embs l
end
theorem embs_len : ∀ l : List Tr, (embs l).length = l.length
  | [] => rfl
  | x :: l => by unfold embs; simp [embs_len l]
mutual
theorem same_refl : ∀ z : Tz, sameB z z = true
  | .mk k a s n ps l => by unfold sameB; simp [same_refls l]
theorem same_refls : ∀ l : List Tz, sameBs l l = true
  | [] => rfl
  | x :: l => by unfold sameBs; simp [same_refl x, same_refls l]
end
mutual
/-- An expression's text, as the reference has it; dec: a number's digits. -/
def exT (dec : Nat → Bs) : Tz → Bs
  | .mk k _ s n _ l => if k = 0 then dec n else if k = 1 then s else if k = 2 then s ++ liT dec [] true true l else if k = 5 then s ++ [40] ++ liT dec [44, 32] false true l ++ [41] else liT dec ([32] ++ s ++ [32]) true true l
/-- Expressions' texts, with bt between; op: as operands; first: nothing is ahead. -/
def liT (dec : Nat → Bs) (bt : Bs) (op first : Bool) : List Tz → Bs
  | [] => []
  | x :: l => (if first then [] else bt) ++ opT dec op x ++ liT dec bt op false l
def opT (dec : Nat → Bs) (op : Bool) : Tz → Bs
  | .mk k _ s n _ l =>
    let t := if k = 0 then dec n else if k = 1 then s else if k = 2 then s ++ liT dec [] true true l else if k = 5 then s ++ [40] ++ liT dec [44, 32] false true l ++ [41] else liT dec ([32] ++ s ++ [32]) true true l
    if op && !(decide (k = 0) || decide (k = 1) || decide (k = 5)) then [40] ++ t ++ [41] else t
end
def kz : Tz → Int
  | .mk k _ _ _ _ _ => k
theorem opT_eq (dec : Nat → Bs) (op : Bool) (z : Tz) : opT dec op z = if op && !(decide (kz z = 0) || decide (kz z = 1) || decide (kz z = 5)) then [40] ++ exT dec z ++ [41] else exT dec z := by
  cases z
  unfold opT exT kz
  rfl
def naT (first : Bool) : List Bs → Bs
  | [] => []
  | p :: ps => (if first then [] else [44, 32]) ++ p ++ naT false ps
end Go.Proofs.YtpoepignpdfleaaGreatDoor.Sh
/- DERIVED. Names, plainly: what is known of a program as far as it is gone through. Of no program. By an AI agent. -/
namespace Go.Proofs.YtpoepignpdfleaaGreatDoor.Nm
open Lx Pa Sh
set_option linter.unusedVariables false
set_option linter.unusedSimpArgs false
/-- What a name is: its sort (0: an input, 1: a function, 2: a variable, 3: a loop's variable), and of a function how many parameters. -/
abbrev Kn := Bs → Option (Nat × Nat)
def Kn.put (kn : Kn) (s : Bs) (m : Nat × Nat) : Kn := fun t => if t = s then some m else kn t
def Kn.dels (kn : Kn) (l : List Bs) : Kn := fun t => if t ∈ l then none else kn t
structure St where
  kn : Kn
  en : List Bs
  se : List Bs
  pu : List Bs
  ou : List (Bs × Bool)
def isB (kn : Kn) (s : Bs) (l : List Nat) : Bool := match kn s with | none => false | some m => l.contains m.1
def namedB (kn : Kn) (s : Bs) : Bool := (kn s).isSome
def wordB (kn : Kn) (s : Bs) : Bool := match kn s with | none => false | some m => !decide (m.1 = 1)
def callB (kn : Kn) (s : Bs) (p : Nat) : Bool := match kn s with | none => false | some m => decide (m.1 = 1) && decide (m.2 = p)
inductive Rs
  | ok (c : St)
  | bad (a : Int)
def bndR (r : Rs) (f : St → Rs) : Rs := match r with | .bad a => .bad a | .ok c => f c
mutual
/-- Where an expression is wrong first. -/
def exB (isN : Bs → Bool) (cal : Bs → Nat → Bool) : Tz → Option Int
  | .mk k a s _ _ l => if (k = 1 ∧ isN s = false) ∨ (k = 5 ∧ cal s l.length = false) then some a else exBs isN cal l
def exBs (isN : Bs → Bool) (cal : Bs → Nat → Bool) : List Tz → Option Int
  | [] => none
  | x :: l => match exB isN cal x with | some a => some a | none => exBs isN cal l
end
def inB (a : Int) : List Bs → St → Rs
  | [], c => .ok c
  | s :: l, c => if namedB c.kn s = true then .bad a else inB a l { c with kn := c.kn.put s (0, 0), en := c.en ++ [s] }
/-- Parameters are all right; sn: those ahead. -/
def paB (kn : Kn) (f : Bs) : List Bs → List Bs → Bool
  | _, [] => true
  | sn, s :: l => if (s == f || isB kn s [1] || sn.contains s) = true then false else paB kn f (sn ++ [s]) l
def exR (o : Option Int) (r : Rs) : Rs := match o with | some a => .bad a | none => r
mutual
def stB : Tz → St → Rs
  | .mk k a s n ps l, c =>
    if k = 6 then bndR (inB a ps c) fun d => .ok { d with se := d.se ++ ps }
    else if k = 7 then bndR (inB a ps c) fun d => .ok { d with pu := d.pu ++ ps }
    else if k = 12 then
      if namedB c.kn s = true then .bad a else if paB c.kn s [] ps = false then .bad a else
      exR (exBs (fun t => ps.contains t) (callB c.kn) (l.take 1)) (.ok { c with kn := c.kn.put s (1, ps.length) })
    else if k = 10 then
      exR (exBs (wordB c.kn) (callB c.kn) (l.take 1)) (if isB c.kn s [0, 1, 3] = true then .bad a else if isB c.kn s [2] = true then .ok c else .ok { c with kn := c.kn.put s (2, 0), en := c.en ++ [s] })
    else if k = 8 ∨ k = 9 then
      exR (exBs (wordB c.kn) (callB c.kn) (l.take 1)) (if (c.ou.map (·.1)).contains s = true then .bad a else .ok { c with ou := c.ou ++ [(s, decide (k = 9))] })
    else if k = 11 then
      exR (exBs (wordB c.kn) (callB c.kn) (l.take 2)) (if namedB c.kn s = true then .bad a else
        bndR (stBs 2 l { c with kn := c.kn.put s (3, 0), en := c.en ++ [s] }) fun d => .ok { d with kn := d.kn.dels (d.en.drop c.en.length), en := d.en.take c.en.length })
    else .ok c
/-- Statements behind so many parts. -/
def stBs : Nat → List Tz → St → Rs
  | _, [], c => .ok c
  | 0, x :: l, c => bndR (stB x c) fun d => stBs 0 l d
  | i + 1, _ :: l, c => stBs i l c
end
theorem stBs_drop : ∀ (i : Nat) (l : List Tz) (c : St), stBs i l c = stBs 0 (l.drop i) c
  | 0, l, c => by rw [List.drop_zero]
  | i + 1, [], c => by simp [stBs]
  | i + 1, x :: l, c => by rw [List.drop_succ_cons, ← stBs_drop i l c]; conv => lhs; unfold stBs
theorem stBs_cons (x : Tz) (l : List Tz) (c : St) : stBs 0 (x :: l) c = bndR (stB x c) fun d => stBs 0 l d := by conv => lhs; unfold stBs
theorem stBs_nil (i : Nat) (c : St) : stBs i [] c = .ok c := by unfold stBs; rfl
theorem stBs_app : ∀ (l m : List Tz) (c : St), stBs 0 (l ++ m) c = bndR (stBs 0 l c) fun d => stBs 0 m d
  | [], m, c => by rw [List.nil_append, stBs_nil]; rfl
  | x :: l, m, c => by
    rw [List.cons_append, stBs_cons, stBs_cons]
    cases stB x c with
    | bad a => rfl
    | ok d => exact stBs_app l m d
def sel : Bs := [115, 101, 108]
def init : St := { kn := Kn.put (fun _ => none) sel (1, 3), en := [], se := [], pu := [], ou := [] }
def lz : Tz → List Tz
  | .mk _ _ _ _ _ l => l
def ckB (z : Tz) : Rs := stBs 0 (lz z) init
/-- What a name is, is known. -/
def Sorts (kn : Kn) : Prop := ∀ s m, kn s = some m → m.1 ≤ 3
/-- What comes behind keeps what was, and what is new ends with the loop, but for functions. -/
structure Ext (c d : St) : Prop where
  kn : ∀ s m, c.kn s = some m → d.kn s = some m
  en : ∃ e, d.en = c.en ++ e ∧ (∀ s ∈ e, c.kn s = none ∧ ∃ m, d.kn s = some m ∧ m.1 ≠ 1) ∧ ∀ s m, d.kn s = some m → c.kn s = none → m.1 ≠ 1 → s ∈ e
theorem Ext.refl (c : St) : Ext c c := ⟨fun _ _ h => h, [], by simp, by simp, fun s m h h' => by rw [h'] at h; cases h⟩
theorem Ext.trans {c d f : St} (h : Ext c d) (h' : Ext d f) : Ext c f := by
  obtain ⟨e, he, h1, h3⟩ := h.en
  obtain ⟨e', he', h1', h3'⟩ := h'.en
  refine ⟨fun s m hs => h'.kn s m (h.kn s m hs), e ++ e', by rw [he', he, List.append_assoc], fun s hs => ?_, fun s m hs hn hm => ?_⟩
  · rcases List.mem_append.1 hs with hs | hs
    · obtain ⟨a, m, b, b'⟩ := h1 s hs
      exact ⟨a, m, h'.kn s m b, b'⟩
    · obtain ⟨a, b⟩ := h1' s hs
      refine ⟨?_, b⟩
      cases hc : c.kn s with
      | none => rfl
      | some m => rw [h.kn s m hc] at a; cases a
  · cases hd : d.kn s with
    | none => exact List.mem_append_right _ (h3' s m hs hd hm)
    | some m' =>
      have := h'.kn s m' hd
      rw [this] at hs
      cases hs
      exact List.mem_append_left _ (h3 s _ hd hn hm)
theorem namedB_no {kn : Kn} {s : Bs} (h : ¬ namedB kn s = true) : kn s = none := by
  unfold namedB at h
  cases hk : kn s with
  | none => rfl
  | some m => rw [hk] at h; simp at h
/-- A name that was none. -/
theorem Ext.new {c d : St} {s : Bs} {m : Nat × Nat} (hn : c.kn s = none) (hm : m.1 ≠ 1) (hk : d.kn = c.kn.put s m) (he : d.en = c.en ++ [s]) : Ext c d := by
  refine ⟨fun t m' ht => ?_, [s], he, fun t ht => ?_, fun t m' ht hc hm' => ?_⟩
  · rw [hk]; unfold Kn.put
    rw [if_neg (fun e => by subst e; rw [hn] at ht; cases ht)]; exact ht
  · obtain rfl := List.mem_singleton.1 ht
    exact ⟨hn, m, by rw [hk]; unfold Kn.put; rw [if_pos rfl], hm⟩
  · rw [hk] at ht; unfold Kn.put at ht
    by_cases hts : t = s
    · subst hts; simp
    · rw [if_neg hts, hc] at ht; cases ht
theorem Ext.fn {c d : St} {s : Bs} {p : Nat} (hn : c.kn s = none) (hk : d.kn = c.kn.put s (1, p)) (he : d.en = c.en) : Ext c d := by
  refine ⟨fun t m' ht => ?_, [], by rw [he]; simp, by simp, fun t m' ht hc hm' => ?_⟩
  · rw [hk]; unfold Kn.put
    rw [if_neg (fun e => by subst e; rw [hn] at ht; cases ht)]; exact ht
  · rw [hk] at ht; unfold Kn.put at ht
    by_cases hts : t = s
    · rw [if_pos hts] at ht; cases ht; exact absurd rfl hm'
    · rw [if_neg hts, hc] at ht; cases ht
theorem Ext.same {c d : St} (hk : d.kn = c.kn) (he : d.en = c.en) : Ext c d :=
  ⟨fun s m h => by rw [hk]; exact h, [], by rw [he]; simp, by simp, fun s m h h' => by rw [hk, h'] at h; cases h⟩
/-- A loop, behind its variable. -/
theorem Ext.loop {c c1 d f : St} {s : Bs} {m : Nat × Nat} (hn : c.kn s = none) (hm : m.1 ≠ 1) (hk : c1.kn = c.kn.put s m) (he : c1.en = c.en ++ [s]) (h : Ext c1 d) (hf : f.kn = d.kn.dels (d.en.drop c.en.length)) (hfe : f.en = d.en.take c.en.length) : Ext c f := by
  have h0 := (Ext.new hn hm hk he).trans h
  obtain ⟨e, h1, h2, h4⟩ := h0.en
  have hd : d.en.drop c.en.length = e := by rw [h1]; simp
  have ht : d.en.take c.en.length = c.en := by rw [h1]; simp
  rw [hd] at hf
  rw [ht] at hfe
  refine ⟨fun t m' htm => ?_, [], by rw [hfe]; simp, by simp, fun t m' htm hc hm' => ?_⟩
  · rw [hf]; unfold Kn.dels
    rw [if_neg (fun hh => by rw [(h2 t hh).1] at htm; cases htm)]
    exact h0.kn t m' htm
  · rw [hf] at htm; unfold Kn.dels at htm
    by_cases hte : t ∈ e
    · rw [if_pos hte] at htm; cases htm
    · rw [if_neg hte] at htm
      exact absurd (h4 t m' htm hc hm') hte
theorem bnd_ok {r : Rs} {f : St → Rs} {d : St} (h : bndR r f = .ok d) : ∃ c, r = .ok c ∧ f c = .ok d := by
  cases r with
  | bad a => cases h
  | ok c => exact ⟨c, rfl, h⟩
theorem exR_ok {o : Option Int} {r : Rs} {d : St} (h : exR o r = .ok d) : o = none ∧ r = .ok d := by
  cases o with
  | none => exact ⟨rfl, h⟩
  | some a => cases h
theorem inB_ext {a : Int} : ∀ {ps : List Bs} {c d : St}, inB a ps c = .ok d → Ext c d ∧ d.se = c.se ∧ d.pu = c.pu ∧ d.ou = c.ou
  | [], c, d, h => by unfold inB at h; cases h; exact ⟨.refl _, rfl, rfl, rfl⟩
  | s :: l, c, d, h => by
    unfold inB at h
    by_cases hb : namedB c.kn s = true
    · rw [if_pos hb] at h; cases h
    · rw [if_neg hb] at h
      obtain ⟨h1, h2, h3, h4⟩ := inB_ext h
      exact ⟨(Ext.new (namedB_no hb) (by decide) rfl rfl).trans h1, h2, h3, h4⟩
theorem isB_none {kn : Kn} {s : Bs} (h1 : ¬ isB kn s [0, 1, 3] = true) (h2 : ¬ isB kn s [2] = true) (hs : Sorts kn) : kn s = none := by
  cases hk : kn s with
  | none => rfl
  | some m =>
    exfalso
    have := hs s m hk
    unfold isB at h1 h2
    rw [hk] at h1 h2
    simp at h1 h2
    omega
theorem Sorts.put {kn : Kn} (h : Sorts kn) {s : Bs} {m : Nat × Nat} (hm : m.1 ≤ 3) : Sorts (kn.put s m) := fun t m' ht => by
  unfold Kn.put at ht
  by_cases e : t = s
  · rw [if_pos e] at ht; cases ht; exact hm
  · rw [if_neg e] at ht; exact h t m' ht
theorem Sorts.dels {kn : Kn} (h : Sorts kn) (l : List Bs) : Sorts (kn.dels l) := fun t m' ht => by
  unfold Kn.dels at ht
  by_cases e : t ∈ l
  · rw [if_pos e] at ht; cases ht
  · rw [if_neg e] at ht; exact h t m' ht
theorem inB_sorts {a : Int} : ∀ {ps : List Bs} {c d : St}, inB a ps c = .ok d → Sorts c.kn → Sorts d.kn
  | [], c, d, h, hs => by unfold inB at h; cases h; exact hs
  | s :: l, c, d, h, hs => by
    unfold inB at h
    by_cases hb : namedB c.kn s = true
    · rw [if_pos hb] at h; cases h
    · rw [if_neg hb] at h
      exact inB_sorts h (hs.put (by decide))
mutual
theorem stB_ext : ∀ {z : Tz} {c d : St}, stB z c = .ok d → Sorts c.kn → Ext c d ∧ Sorts d.kn
  | .mk k a s n ps l, c, d, h, hs => by
    unfold stB at h
    by_cases h6 : k = 6
    · rw [if_pos h6] at h
      obtain ⟨c1, h1, h2⟩ := bnd_ok h
      cases h2
      exact ⟨(inB_ext h1).1.trans (Ext.same rfl rfl), (show Sorts c1.kn from inB_sorts h1 hs)⟩
    rw [if_neg h6] at h
    by_cases h7 : k = 7
    · rw [if_pos h7] at h
      obtain ⟨c1, h1, h2⟩ := bnd_ok h
      cases h2
      exact ⟨(inB_ext h1).1.trans (Ext.same rfl rfl), (show Sorts c1.kn from inB_sorts h1 hs)⟩
    rw [if_neg h7] at h
    by_cases h12 : k = 12
    · rw [if_pos h12] at h
      by_cases hb : namedB c.kn s = true
      · rw [if_pos hb] at h; cases h
      rw [if_neg hb] at h
      by_cases hp : paB c.kn s [] ps = false
      · rw [if_pos hp] at h; cases h
      rw [if_neg hp] at h
      obtain ⟨_, h2⟩ := exR_ok h
      cases h2
      exact ⟨Ext.fn (namedB_no hb) rfl rfl, hs.put (by show 1 ≤ 3; decide)⟩
    rw [if_neg h12] at h
    by_cases h10 : k = 10
    · rw [if_pos h10] at h
      obtain ⟨_, h2⟩ := exR_ok h
      by_cases hb : isB c.kn s [0, 1, 3] = true
      · rw [if_pos hb] at h2; cases h2
      rw [if_neg hb] at h2
      by_cases hv : isB c.kn s [2] = true
      · rw [if_pos hv] at h2; cases h2; exact ⟨.refl _, hs⟩
      rw [if_neg hv] at h2
      cases h2
      exact ⟨Ext.new (isB_none hb hv hs) (by decide) rfl rfl, hs.put (by decide)⟩
    rw [if_neg h10] at h
    by_cases h8 : k = 8 ∨ k = 9
    · rw [if_pos h8] at h
      obtain ⟨_, h2⟩ := exR_ok h
      by_cases hb : (c.ou.map (·.1)).contains s = true
      · rw [if_pos hb] at h2; cases h2
      rw [if_neg hb] at h2
      cases h2
      exact ⟨Ext.same rfl rfl, hs⟩
    rw [if_neg h8] at h
    by_cases h11 : k = 11
    · rw [if_pos h11] at h
      obtain ⟨_, h2⟩ := exR_ok h
      by_cases hb : namedB c.kn s = true
      · rw [if_pos hb] at h2; cases h2
      rw [if_neg hb] at h2
      obtain ⟨c1, h3, h4⟩ := bnd_ok h2
      cases h4
      obtain ⟨h5, h6'⟩ := stBs_ext h3 (hs.put (by decide))
      exact ⟨Ext.loop (m := (3, 0)) (namedB_no hb) (by decide) rfl rfl h5 rfl rfl, h6'.dels _⟩
    rw [if_neg h11] at h
    cases h
    exact ⟨.refl _, hs⟩
theorem stBs_ext : ∀ {i : Nat} {l : List Tz} {c d : St}, stBs i l c = .ok d → Sorts c.kn → Ext c d ∧ Sorts d.kn
  | _, [], c, d, h, hs => by rw [stBs_nil] at h; cases h; exact ⟨.refl _, hs⟩
  | 0, x :: l, c, d, h, hs => by
    rw [stBs_cons] at h
    obtain ⟨c1, h1, h2⟩ := bnd_ok h
    obtain ⟨h3, h4⟩ := stB_ext h1 hs
    obtain ⟨h5, h6⟩ := stBs_ext h2 h4
    exact ⟨h3.trans h5, h6⟩
  | i + 1, x :: l, c, d, h, hs => by
    unfold stBs at h
    exact stBs_ext h hs
end
theorem Ext.len {c d : St} (h : Ext c d) : c.en.length ≤ d.en.length := by
  obtain ⟨e, he, _⟩ := h.en
  rw [he]; simp
/-! An output that is left out. -/
structure Lf (s : Bs) (c d : St) : Prop where
  kn : d.kn = c.kn
  en : d.en = c.en
  se : d.se = c.se
  pu : d.pu = c.pu
  ou : d.ou = c.ou.filter (fun x => !(x.1 == s))
  is : s ∈ c.ou.map (·.1)
theorem lf_in {a : Int} {s : Bs} : ∀ {ps : List Bs} {c c1 d : St}, inB a ps c = .ok c1 → Lf s c d → ∃ d1, inB a ps d = .ok d1 ∧ Lf s c1 d1
  | [], c, c1, d, h, hL => by unfold inB at h ⊢; cases h; exact ⟨_, rfl, hL⟩
  | p :: l, c, c1, d, h, hL => by
    unfold inB at h ⊢
    rw [hL.kn]
    by_cases hb : namedB c.kn p = true
    · rw [if_pos hb] at h; cases h
    · rw [if_neg hb] at h ⊢
      exact lf_in h ⟨rfl, by show d.en ++ [p] = _; rw [hL.en], hL.se, hL.pu, hL.ou, hL.is⟩
mutual
theorem lf_st {s : Bs} : ∀ {z : Tz} {c c1 d : St}, stB z c = .ok c1 → Lf s c d → ∃ d1, stB z d = .ok d1 ∧ Lf s c1 d1
  | .mk k a s1 n ps l, c, c1, d, h, hL => by
    unfold stB at h ⊢
    by_cases h6 : k = 6
    · rw [if_pos h6] at h ⊢
      obtain ⟨c2, h1, h2⟩ := bnd_ok h
      cases h2
      obtain ⟨d2, h3, h4⟩ := lf_in h1 hL
      rw [h3]
      exact ⟨_, rfl, h4.kn, h4.en, by rw [h4.se], h4.pu, h4.ou, h4.is⟩
    rw [if_neg h6] at h ⊢
    by_cases h7 : k = 7
    · rw [if_pos h7] at h ⊢
      obtain ⟨c2, h1, h2⟩ := bnd_ok h
      cases h2
      obtain ⟨d2, h3, h4⟩ := lf_in h1 hL
      rw [h3]
      exact ⟨_, rfl, h4.kn, h4.en, h4.se, by rw [h4.pu], h4.ou, h4.is⟩
    rw [if_neg h7] at h ⊢
    by_cases h12 : k = 12
    · rw [if_pos h12] at h ⊢
      rw [hL.kn]
      by_cases hb : namedB c.kn s1 = true
      · rw [if_pos hb] at h; cases h
      rw [if_neg hb] at h ⊢
      by_cases hp : paB c.kn s1 [] ps = false
      · rw [if_pos hp] at h; cases h
      rw [if_neg hp] at h ⊢
      obtain ⟨h1, h2⟩ := exR_ok h
      cases h2
      rw [h1]
      exact ⟨_, rfl, rfl, hL.en, hL.se, hL.pu, hL.ou, hL.is⟩
    rw [if_neg h12] at h ⊢
    by_cases h10 : k = 10
    · rw [if_pos h10] at h ⊢
      rw [hL.kn]
      obtain ⟨h1, h2⟩ := exR_ok h
      rw [h1]
      show ∃ d1, (if isB c.kn s1 [0, 1, 3] = true then Rs.bad a else _) = Rs.ok d1 ∧ _
      by_cases hb : isB c.kn s1 [0, 1, 3] = true
      · rw [if_pos hb] at h2; cases h2
      rw [if_neg hb] at h2 ⊢
      by_cases hv : isB c.kn s1 [2] = true
      · rw [if_pos hv] at h2 ⊢; cases h2; exact ⟨_, rfl, hL⟩
      rw [if_neg hv] at h2 ⊢
      cases h2
      exact ⟨_, rfl, rfl, by rw [hL.en], hL.se, hL.pu, hL.ou, hL.is⟩
    rw [if_neg h10] at h ⊢
    by_cases h8 : k = 8 ∨ k = 9
    · rw [if_pos h8] at h ⊢
      rw [hL.kn]
      obtain ⟨h1, h2⟩ := exR_ok h
      rw [h1]
      show ∃ d1, (if (d.ou.map (·.1)).contains s1 = true then Rs.bad a else _) = Rs.ok d1 ∧ _
      by_cases hb : (c.ou.map (·.1)).contains s1 = true
      · rw [if_pos hb] at h2; cases h2
      rw [if_neg hb] at h2
      cases h2
      have hb' : s1 ∉ c.ou.map (·.1) := fun hm => hb (List.contains_iff_mem.2 hm)
      have hd : ¬ (d.ou.map (·.1)).contains s1 = true := fun hm => hb' (by
        have := List.contains_iff_mem.1 hm
        rw [hL.ou] at this
        obtain ⟨x, hx, e⟩ := List.mem_map.1 this
        exact List.mem_map.2 ⟨x, (List.mem_filter.1 hx).1, e⟩)
      rw [if_neg hd]
      have hne : s1 ≠ s := fun e => hb' (by rw [e]; exact hL.is)
      refine ⟨_, rfl, rfl, hL.en, hL.se, hL.pu, ?_, ?_⟩
      · show d.ou ++ _ = (c.ou ++ _).filter _
        rw [List.filter_append, ← hL.ou]
        simp [hne]
      · show s ∈ (c.ou ++ _).map _
        rw [List.map_append]
        exact List.mem_append_left _ hL.is
    rw [if_neg h8] at h ⊢
    by_cases h11 : k = 11
    · rw [if_pos h11] at h ⊢
      rw [hL.kn]
      obtain ⟨h1, h2⟩ := exR_ok h
      rw [h1]
      show ∃ d1, (if namedB c.kn s1 = true then Rs.bad a else _) = Rs.ok d1 ∧ _
      by_cases hb : namedB c.kn s1 = true
      · rw [if_pos hb] at h2; cases h2
      rw [if_neg hb] at h2 ⊢
      obtain ⟨c2, h3, h4⟩ := bnd_ok h2
      cases h4
      obtain ⟨d2, h5, h6'⟩ := lf_sts (d := { d with kn := c.kn.put s1 (3, 0), en := d.en ++ [s1] }) h3 ⟨rfl, by rw [hL.en], hL.se, hL.pu, hL.ou, hL.is⟩
      rw [h5]
      exact ⟨_, rfl, by rw [h6'.kn, h6'.en, hL.en], by rw [h6'.en, hL.en], h6'.se, h6'.pu, h6'.ou, h6'.is⟩
    rw [if_neg h11] at h ⊢
    cases h
    exact ⟨_, rfl, hL⟩
theorem lf_sts {s : Bs} : ∀ {i : Nat} {l : List Tz} {c c1 d : St}, stBs i l c = .ok c1 → Lf s c d → ∃ d1, stBs i l d = .ok d1 ∧ Lf s c1 d1
  | _, [], c, c1, d, h, hL => by rw [stBs_nil] at h ⊢; cases h; exact ⟨_, rfl, hL⟩
  | 0, x :: l, c, c1, d, h, hL => by
    rw [stBs_cons] at h ⊢
    obtain ⟨c2, h1, h2⟩ := bnd_ok h
    obtain ⟨d2, h3, h4⟩ := lf_st h1 hL
    rw [h3]
    exact lf_sts h2 h4
  | i + 1, x :: l, c, c1, d, h, hL => by
    unfold stBs at h ⊢
    exact lf_sts h hL
end
/-- The law NamesLeft, plainly. -/
theorem left_out {l m : List Tz} {k a : Int} {s : Bs} {n : Nat} {ps : List Bs} {q : List Tz} {c0 c : St} (hk : k = 8 ∨ k = 9) (h : stBs 0 (l ++ .mk k a s n ps q :: m) c0 = .ok c) :
    ∃ d, stBs 0 (l ++ m) c0 = .ok d ∧ d.se = c.se ∧ d.pu = c.pu ∧ d.ou = c.ou.filter (fun x => !(x.1 == s)) := by
  rw [stBs_app] at h ⊢
  obtain ⟨c1, h1, h2⟩ := bnd_ok h
  rw [h1]
  rw [stBs_cons] at h2
  obtain ⟨c2, h3, h4⟩ := bnd_ok h2
  have hL : Lf s c2 c1 := by
    unfold stB at h3
    rw [if_neg (by omega), if_neg (by omega), if_neg (by omega), if_neg (by omega), if_pos hk] at h3
    obtain ⟨_, h5⟩ := exR_ok h3
    by_cases hb : (c1.ou.map (·.1)).contains s = true
    · rw [if_pos hb] at h5; cases h5
    rw [if_neg hb] at h5
    cases h5
    have hb' : s ∉ c1.ou.map (·.1) := fun hm => hb (List.contains_iff_mem.2 hm)
    refine ⟨rfl, rfl, rfl, rfl, ?_, ?_⟩
    · show c1.ou = (c1.ou ++ [_]).filter _
      rw [List.filter_append]
      have : c1.ou.filter (fun x => !(x.1 == s)) = c1.ou := List.filter_eq_self.2 fun x hx => by
        have : x.1 ≠ s := fun e => hb' (List.mem_map.2 ⟨x, hx, e⟩)
        simp [this]
      rw [this]
      simp
    · simp
  obtain ⟨d, h5, h6⟩ := lf_sts h4 hL
  exact ⟨d, h5, h6.se, h6.pu, h6.ou⟩
mutual
/-- Names that stand in a tree, behind others. -/
def usB (l : List Bs) : Tz → List Bs
  | .mk k _ s _ _ q => usBs (if k = 1 ∧ ¬ s ∈ l then l ++ [s] else l) q
def usBs (l : List Bs) : List Tz → List Bs
  | [] => l
  | x :: q => usBs (usB l x) q
end
end Go.Proofs.YtpoepignpdfleaaGreatDoor.Nm
/- DERIVED. Places change nothing else in what is read. Of no program. By an AI agent. -/
namespace Go.Proofs.YtpoepignpdfleaaGreatDoor.Pa
open Lx
def NT.sk : NT → NT
  | .lev n => .lev n
  | .more n x => .more n (Pa.sk x)
  | .args l => .args (skL l)
  | .fin k _ s ps => .fin k 0 s ps
  | .inner => .inner
  | .inners l => .inners (skL l)
  | .stmt => .stmt
  | .stmts l => .stmts (skL l)
theorem hd_sk {xs xs' : List Tr} (h : skL xs = skL xs') : sk (hd xs) = sk (hd xs') := by
  cases xs with
  | nil => cases xs' with
    | nil => rfl
    | cons x xs' => cases h
  | cons x xs => cases xs' with
    | nil => cases h
    | cons x' xs' => exact (List.cons.inj h).1
theorem put_sk (x : Tr) (a : Nat) : sk (x.put a) = sk x := by
  cases x; rfl
theorem puts_sk (a : Nat) : ∀ xs : List Tr, skL (xs.map (·.put a)) = skL xs
  | [] => rfl
  | x :: xs => by show sk (x.put a) :: skL (xs.map _) = sk x :: skL xs; rw [put_sk, puts_sk a xs]
theorem mk_sk {k a a' n : Nat} {s : Bs} {ps : List Bs} {l l' : List Tr} (h : skL l = skL l') : sk (.mk k a s n ps l) = sk (.mk k a' s n ps l') := by
  show Tr.mk k 0 s n ps (skL l) = Tr.mk k 0 s n ps (skL l'); rw [h]
theorem one_sk {x x' : Tr} (h : sk x = sk x') : skL [x] = skL [x'] := by show [sk x] = [sk x']; rw [h]
theorem isS_sl {t t' : Tk} (hk : t.k = t'.k) (hs : t.s = t'.s) (b : Bs) : isS b t = isS b t' := by unfold isS; rw [hk, hs]
theorem eo_if {c c' : Prop} [Decidable c] [Decidable c'] (hc : c ↔ c') {o o' p p' : OO} (h1 : Eo o o') (h2 : Eo p p') : Eo (if c then o else p) (if c' then o' else p') := by
  by_cases h : c
  · rw [if_pos h, if_pos (hc.1 h)]; exact h1
  · rw [if_neg h, if_neg (fun g => h (hc.2 g))]; exact h2
set_option maxHeartbeats 1000000 in
/-- What is read, but for places, hangs on the tokens' kinds and texts alone. -/
theorem pF_sk (num : Bs → Nat × Nat) : ∀ (f : Nat) (nt nt' : NT) (d : Nat) (l l' : List Tk), nt.sk = nt'.sk → Sl l l' → Eo (pF num f nt d l) (pF num f nt' d l') := by
  intro f
  induction f with
  | zero => intros; rfl
  | succ f ih =>
    have ihe : ∀ n d l l', Sl l l' → Eo (pF num f (.lev n) d l) (pF num f (.lev n) d l') := fun n d l l' h => ih _ _ d l l' rfl h
    have ihf : ∀ k a a' s ps d l l', Sl l l' → Eo (pF num f (.fin k a s ps) d l) (pF num f (.fin k a' s ps) d l') := fun k a a' s ps d l l' h => ih _ _ d l l' rfl h
    intro nt nt' d l l' hn h
    cases nt <;> cases nt' <;> simp only [NT.sk, reduceCtorEq, NT.lev.injEq, NT.more.injEq, NT.args.injEq, NT.fin.injEq, NT.inners.injEq, NT.stmts.injEq, true_and] at hn
    case lev.lev n n' =>
      subst hn
      unfold pF
      refine eo_if Iff.rfl (eo_bnd (ihe _ _ _ _ h) fun xs xs' r r' hx hr => ih _ _ _ _ _ (by simp only [NT.sk, hd_sk hx]) hr) ?_
      cases l with
      | nil => cases l' with
        | nil => rfl
        | cons t l' => cases h
      | cons t l => cases l' with
        | nil => cases h
        | cons t' l' =>
          obtain ⟨h1, h2, h3⟩ := sl_cons h
          simp only
          refine eo_if Iff.rfl rfl (eo_if (by rw [isS_sl h1 h2, isS_sl h1 h2]) (eo_bnd (ihe _ _ _ _ h3) fun xs xs' r r' hx hr => eo_ok (one_sk (by rw [h2]; exact mk_sk hx)) hr) (eo_if (by rw [h1]) ?_ (eo_if (by rw [isS_sl h1 h2]) (eo_bnd (ihe _ _ _ _ h3) fun xs xs' r r' hx hr => eo_must hr fun r2 r2' hr2 => eo_ok (by rw [puts_sk, puts_sk, hx]) hr2) (eo_name h fun s r r' hr => ?_))))
          · rw [h2]; exact eo_if Iff.rfl (eo_ok (one_sk (mk_sk rfl)) h3) rfl
          · cases r with
            | nil => cases r' with
              | nil => exact eo_ok (one_sk (mk_sk rfl)) rfl
              | cons u r' => cases hr
            | cons u r => cases r' with
              | nil => cases hr
              | cons u' r' =>
                obtain ⟨g1, g2, g3⟩ := sl_cons hr
                simp only
                exact eo_if (by rw [isS_sl g1 g2]) (eo_bnd (ihe _ _ _ _ g3) fun xs xs' r r' hx hr => eo_bnd (ih _ _ _ _ _ (by simp only [NT.sk, hx]) hr) fun ys ys' r r' hy hr => eo_must hr fun r r' hr => eo_ok (one_sk (mk_sk hy)) hr) (eo_ok (one_sk (mk_sk rfl)) hr)
    case more.more n x n' x' =>
      obtain ⟨rfl, hx⟩ := hn
      unfold pF
      cases l with
      | nil => cases l' with
        | nil => exact eo_ok (one_sk hx) rfl
        | cons t l' => cases h
      | cons t l => cases l' with
        | nil => cases h
        | cons t' l' =>
          obtain ⟨h1, h2, h3⟩ := sl_cons h
          simp only
          refine eo_if (by unfold onS; rw [h1, h2]) (eo_bnd (ihe _ _ _ _ h3) fun ys ys' r r' hy hr => ih _ _ _ _ _ ?_ hr) (eo_ok (one_sk hx) h)
          simp only [NT.sk]
          rw [h2]
          congr 1
          exact mk_sk (show sk x :: skL ys = sk x' :: skL ys' by rw [hx, hy])
    case args.args xs xs' =>
      unfold pF
      cases l with
      | nil => cases l' with
        | nil => exact eo_ok hn rfl
        | cons t l' => cases h
      | cons t l => cases l' with
        | nil => cases h
        | cons t' l' =>
          obtain ⟨h1, h2, h3⟩ := sl_cons h
          simp only
          exact eo_if (by rw [isS_sl h1 h2]) (eo_bnd (ihe _ _ _ _ h3) fun ys ys' r r' hy hr => ih _ _ _ _ _ (by simp only [NT.sk, skL_app, hn, hy]) hr) (eo_ok hn h)
    case fin.fin k a s ps k' a' s' ps' =>
      obtain ⟨rfl, rfl, rfl⟩ := hn
      unfold pF
      exact eo_bnd (ihe _ _ _ _ h) fun xs xs' r r' hx hr => eo_must hr fun r r' hr => eo_ok (one_sk (mk_sk hx)) hr
    case inner.inner =>
      unfold pF
      cases l with
      | nil => cases l' with
        | nil => rfl
        | cons t l' => cases h
      | cons t l => cases l' with
        | nil => cases h
        | cons t' l' =>
          obtain ⟨h1, h2, h3⟩ := sl_cons h
          simp only
          exact eo_if Iff.rfl rfl (eo_if (by rw [isS_sl h1 h2]) (eo_name h3 fun s r r' hr => eo_must hr fun r r' hr => eo_bnd (ihe _ _ _ _ hr) fun xs xs' r r' hx hr => eo_must hr fun r r' hr => eo_bnd (ihe _ _ _ _ hr) fun ys ys' r r' hy hr => eo_must hr fun r r' hr =>
            eo_bnd (ih _ _ _ _ _ (by simp only [NT.sk, skL_app, hx, hy]) hr) fun zs zs' r r' hz hr => eo_ok (one_sk (mk_sk hz)) hr) (eo_name h fun s r r' hr => eo_must hr fun r r' hr => ihf _ _ _ _ _ _ _ _ hr))
    case inners.inners zs zs' =>
      unfold pF
      cases l with
      | nil => cases l' with
        | nil => rfl
        | cons t l' => cases h
      | cons t l => cases l' with
        | nil => cases h
        | cons t' l' =>
          obtain ⟨h1, h2, h3⟩ := sl_cons h
          simp only
          exact eo_if (by rw [isS_sl h1 h2]) (eo_ok hn h3) (eo_bnd (ih _ _ _ _ _ rfl h) fun xs xs' r r' hx hr => ih _ _ _ _ _ (by simp only [NT.sk, skL_app, hn, hx]) hr)
    case stmt.stmt =>
      unfold pF
      cases l with
      | nil => cases l' with
        | nil => rfl
        | cons t l' => cases h
      | cons t l => cases l' with
        | nil => cases h
        | cons t' l' =>
          obtain ⟨h1, h2, h3⟩ := sl_cons h
          simp only
          refine eo_if (by rw [isS_sl h1 h2]) ?_ (eo_if (by rw [isS_sl h1 h2]) ?_ (eo_if (by rw [isS_sl h1 h2]) ?_ (eo_if (by rw [isS_sl h1 h2]) ?_ (eo_if (by rw [isS_sl h1 h2]) ?_ (ih _ _ _ _ _ rfl h)))))
          · refine eo_names (fun ps r r' hr => ?_) _ _ _ h3
            exact eo_must hr fun r r' hr => eo_ok (one_sk (mk_sk rfl)) hr
          · refine eo_names (fun ps r r' hr => ?_) _ _ _ h3
            exact eo_must hr fun r r' hr => eo_ok (one_sk (mk_sk rfl)) hr
          · refine eo_name h3 fun s r r' hr => ?_
            exact eo_must hr fun r r' hr => ihf _ _ _ _ _ _ _ _ hr
          · refine eo_name h3 fun s r r' hr => ?_
            exact eo_must hr fun r r' hr => ihf _ _ _ _ _ _ _ _ hr
          · refine eo_name h3 fun s r r' hr => eo_must hr fun r r' hr => ?_
            refine eo_names (fun ps r r' hr => ?_) _ _ _ hr
            exact eo_must hr fun r r' hr => eo_must hr fun r r' hr => ihf _ _ _ _ _ _ _ _ hr
    case stmts.stmts xs xs' =>
      unfold pF
      cases l with
      | nil => cases l' with
        | nil => rfl
        | cons t l' => cases h
      | cons t l => cases l' with
        | nil => cases h
        | cons t' l' =>
          obtain ⟨h1, h2, h3⟩ := sl_cons h
          simp only
          exact eo_if (by rw [h1]) (eo_ok hn h) (eo_bnd (ih _ _ _ _ _ rfl h) fun ys ys' r r' hy hr => ih _ _ _ _ _ (by simp only [NT.sk, skL_app, hn, hy]) hr)
end Go.Proofs.YtpoepignpdfleaaGreatDoor.Pa
/- DERIVED. More fuel changes nothing; where an error is told, and which. Of no program. By an AI agent. -/
namespace Go.Proofs.YtpoepignpdfleaaGreatDoor.Pa
open Lx
def Le (o o' : OO) : Prop := ∀ x, o = some x → o' = some x
theorem le_refl (o : OO) : Le o o := fun _ h => h
theorem le_if {c : Prop} [Decidable c] {o o' p p' : OO} (h1 : Le o o') (h2 : Le p p') : Le (if c then o else p) (if c then o' else p') := by
  by_cases h : c
  · rw [if_pos h, if_pos h]; exact h1
  · rw [if_neg h, if_neg h]; exact h2
theorem le_bnd {o o' : OO} {f f' : List Tr → List Tk → OO} (h : Le o o') (hf : ∀ xs r, Le (f xs r) (f' xs r)) : Le (bnd o f) (bnd o' f') := by
  rcases o with _ | ⟨l, r⟩ | ⟨a, e⟩
  · intro x hx; cases hx
  · rw [h _ rfl]; exact hf l r
  · rw [h _ rfl]; exact le_refl _
theorem le_must {b : Bs} {l : List Tk} {f f' : List Tk → OO} (hf : ∀ r, Le (f r) (f' r)) : Le (must b l f) (must b l f') := by
  cases l with
  | nil => exact le_refl _
  | cons t l => unfold must; exact le_if (hf _) (le_refl _)
theorem le_name {l : List Tk} {f f' : Bs → List Tk → OO} (hf : ∀ s r, Le (f s r) (f' s r)) : Le (nameK l f) (nameK l f') := by
  cases l with
  | nil => exact le_refl _
  | cons t l => unfold nameK; exact le_if (hf _ _) (le_refl _)
theorem le_names {f f' : List Bs → List Tk → OO} (hf : ∀ ps r, Le (f ps r) (f' ps r)) : ∀ (ps : List Bs) (l : List Tk), Le (namesK ps l f) (namesK ps l f')
  | _, [] => le_refl _
  | ps, [t] => by unfold namesK; exact le_if (hf _ _) (le_refl _)
  | ps, t :: u :: r => by unfold namesK; exact le_if (le_if (le_names hf _ r) (hf _ _)) (le_refl _)
/-- More fuel changes nothing. -/
theorem pF_mono (num : Bs → Nat × Nat) : ∀ (f g : Nat), f ≤ g → ∀ (nt : NT) (d : Nat) (l : List Tk), Le (pF num f nt d l) (pF num g nt d l) := by
  intro f
  induction f with
  | zero => intro g _ nt d l x hx; cases hx
  | succ f ih0 =>
    intro g hg nt d l
    obtain ⟨g, rfl⟩ : ∃ x, g = x + 1 := ⟨g - 1, by omega⟩
    have ih := ih0 g (by omega)
    clear ih0
    cases nt with
    | lev n =>
      unfold pF
      refine le_if (le_bnd (ih _ _ _) fun xs r => ih _ _ _) ?_
      cases l with
      | nil => exact le_refl _
      | cons t r =>
        simp only
        refine le_if (le_refl _) (le_if (le_bnd (ih _ _ _) fun xs r => le_refl _) (le_if (le_refl _) (le_if (le_bnd (ih _ _ _) fun xs r => le_refl _) (le_name fun s r => ?_))))
        cases r with
        | nil => exact le_refl _
        | cons u r => exact le_if (le_bnd (ih _ _ _) fun xs r => le_bnd (ih _ _ _) fun ys r => le_refl _) (le_refl _)
    | more n x =>
      unfold pF
      cases l with
      | nil => exact le_refl _
      | cons t r => exact le_if (le_bnd (ih _ _ _) fun ys r => ih _ _ _) (le_refl _)
    | args xs =>
      unfold pF
      cases l with
      | nil => exact le_refl _
      | cons t r => exact le_if (le_bnd (ih _ _ _) fun ys r => ih _ _ _) (le_refl _)
    | fin k a s ps =>
      unfold pF
      exact le_bnd (ih _ _ _) fun xs r => le_refl _
    | inner =>
      unfold pF
      cases l with
      | nil => exact le_refl _
      | cons t r =>
        exact le_if (le_refl _) (le_if (le_name fun s r => le_must fun r => le_bnd (ih _ _ _) fun xs r => le_must fun r => le_bnd (ih _ _ _) fun ys r => le_must fun r => le_bnd (ih _ _ _) fun zs r => le_refl _) (le_name fun s r => le_must fun r => ih _ _ _))
    | inners zs =>
      unfold pF
      cases l with
      | nil => exact le_refl _
      | cons t r => exact le_if (le_refl _) (le_bnd (ih _ _ _) fun xs r => ih _ _ _)
    | stmt =>
      unfold pF
      cases l with
      | nil => exact le_refl _
      | cons t r =>
        exact le_if (le_refl _) (le_if (le_refl _) (le_if (le_name fun s r => le_must fun r => ih _ _ _) (le_if (le_name fun s r => le_must fun r => ih _ _ _)
          (le_if (le_name fun s r => le_must fun r => le_names (fun ps r => le_must fun r => le_must fun r => ih _ _ _) _ _) (ih _ _ _)))))
    | stmts xs =>
      unfold pF
      cases l with
      | nil => exact le_refl _
      | cons t r => exact le_if (le_refl _) (le_bnd (ih _ _ _) fun ys r => ih _ _ _)
/-- What is read, whatever the fuel, is one. -/
theorem pF_one {num : Bs → Nat × Nat} {f g : Nat} {nt : NT} {d : Nat} {l : List Tk} {o o' : Out} (h : pF num f nt d l = some o) (h' : pF num g nt d l = some o') : o = o' := by
  have h1 := pF_mono num f (max f g) (Nat.le_max_left _ _) nt d l o h
  have h2 := pF_mono num g (max f g) (Nat.le_max_right _ _) nt d l o' h'
  rw [h1] at h2
  exact Option.some.inj h2
/-- Tokens with the end behind them. -/
def Et (l : List Tk) : Prop := ∃ u e, l = u ++ [e] ∧ e.k = 0 ∧ ∀ t ∈ u, t.k ≠ 0
theorem et_nil : ¬ Et [] := fun ⟨u, e, h, _⟩ => by cases u <;> cases h
theorem et_tail {t : Tk} {r : List Tk} (h : Et (t :: r)) (ht : t.k ≠ 0) : Et r := by
  obtain ⟨u, e, h1, h2, h3⟩ := h
  cases u with
  | nil => simp only [List.nil_append, List.cons.injEq] at h1; rw [h1.1] at ht; exact absurd h2 ht
  | cons x u => simp only [List.cons_append, List.cons.injEq] at h1; exact ⟨u, e, h1.2, h2, fun t ht => h3 t (List.mem_cons_of_mem _ ht)⟩
/-- A good outcome over tokens: what is left of them has the end; an error stands at one of them. -/
def Gd (l : List Tk) : OO → Prop
  | none => True
  | some (.ok _ r) => Et r ∧ r <:+ l
  | some (.bad a e) => (∃ t ∈ l, a = t.at_) ∧ (e = 100 ∨ e = 150)
theorem gd_up {l l' : List Tk} {o : OO} (h : Gd l o) (hl : l <:+ l') : Gd l' o := by
  rcases o with _ | ⟨xs, r⟩ | ⟨a, e⟩
  · trivial
  · exact ⟨h.1, h.2.trans hl⟩
  · obtain ⟨⟨t, ht, ha⟩, he⟩ := h
    exact ⟨⟨t, hl.subset ht, ha⟩, he⟩
theorem gd_wrong {l : List Tk} (h : Et l) {e : Nat} (he : e = 100 ∨ e = 150) : Gd l (wrong l e) := by
  cases l with
  | nil => exact absurd h et_nil
  | cons t r => exact ⟨⟨t, List.mem_cons_self .., rfl⟩, he⟩
theorem gd_ok {l r : List Tk} (xs : List Tr) (h : Et r) (hl : r <:+ l) : Gd l (some (.ok xs r)) := ⟨h, hl⟩
theorem gd_if {l : List Tk} {c : Prop} [Decidable c] {o p : OO} (h1 : c → Gd l o) (h2 : ¬ c → Gd l p) : Gd l (if c then o else p) := by
  by_cases h : c
  · rw [if_pos h]; exact h1 h
  · rw [if_neg h]; exact h2 h
theorem gd_bnd {l : List Tk} {o : OO} {f : List Tr → List Tk → OO} (h : Gd l o) (hf : ∀ xs r, Et r → r <:+ l → Gd r (f xs r)) : Gd l (bnd o f) := by
  rcases o with _ | ⟨xs, r⟩ | ⟨a, e⟩
  · trivial
  · exact gd_up (hf xs r h.1 h.2) h.2
  · exact h
theorem gd_must {b : Bs} {l : List Tk} {f : List Tk → OO} (h : Et l) (hf : ∀ r, Et r → Gd r (f r)) : Gd l (must b l f) := by
  cases l with
  | nil => exact absurd h et_nil
  | cons t r =>
    refine gd_if (fun hb => gd_up (hf r (et_tail h ?_)) (List.suffix_cons t r)) fun _ => gd_wrong h (.inl rfl)
    unfold isS at hb
    simp only [Bool.and_eq_true, decide_eq_true_eq] at hb
    omega
theorem gd_name {l : List Tk} {f : Bs → List Tk → OO} (h : Et l) (hf : ∀ s r, Et r → Gd r (f s r)) : Gd l (nameK l f) := by
  cases l with
  | nil => exact absurd h et_nil
  | cons t r => exact gd_if (fun hb => gd_up (hf t.s r (et_tail h (by omega))) (List.suffix_cons t r)) fun _ => gd_wrong h (.inl rfl)
theorem is_k {b : Bs} {t : Tk} (h : isS b t = true) : t.k ≠ 0 := by
  unfold isS at h
  simp only [Bool.and_eq_true, decide_eq_true_eq] at h
  omega
theorem gd_names {f : List Bs → List Tk → OO} (hf : ∀ ps r, Et r → Gd r (f ps r)) : ∀ (ps : List Bs) (l : List Tk), Et l → Gd l (namesK ps l f)
  | _, [], h => absurd h et_nil
  | ps, [t], h => by
    unfold namesK
    exact gd_if (fun hb => absurd (et_tail h (by omega)) et_nil) fun _ => gd_wrong h (.inl rfl)
  | ps, t :: u :: r, h => by
    unfold namesK
    refine gd_if (fun hb => ?_) fun _ => gd_wrong h (.inl rfl)
    have h2 := et_tail h (by omega)
    exact gd_if (fun hu => gd_up (gd_names hf _ r (et_tail h2 (is_k hu))) ((List.suffix_cons u r).trans (List.suffix_cons t _))) fun _ => gd_up (hf _ _ h2) (List.suffix_cons t _)
theorem on_k {n : Nat} {t : Tk} (h : onS n t = true) : t.k ≠ 0 := by
  unfold onS at h
  simp only [Bool.and_eq_true, beq_iff_eq] at h
  omega
/-- Errors stand at tokens; what is left has the end. -/
theorem pF_good (num : Bs → Nat × Nat) : ∀ (f : Nat) (nt : NT) (d : Nat) (l : List Tk), Et l → Gd l (pF num f nt d l) := by
  intro f
  induction f with
  | zero => intros; trivial
  | succ f ih =>
    intro nt d l h
    have one : ∀ {t : Tk} {r : List Tk} {o : OO}, Gd r o → Gd (t :: r) o := fun {t r o} hg => gd_up hg (List.suffix_cons t r)
    cases l with
    | nil => exact absurd h et_nil
    | cons t r =>
    cases nt with
    | lev n =>
      unfold pF
      refine gd_if (fun _ => gd_bnd (ih _ _ _ h) fun xs r hr _ => ih _ _ _ hr) fun _ => ?_
      refine gd_if (fun _ => gd_wrong h (.inr rfl)) fun _ => gd_if (fun hs => ?_) fun _ => gd_if (fun hk => ?_) fun _ => gd_if (fun hs => ?_) fun _ => gd_name h fun s r hr => ?_
      · have hr : Et r := et_tail h (by
          rcases Bool.or_eq_true_iff.1 hs with hs | hs <;> exact is_k hs)
        exact one (gd_bnd (ih _ _ _ hr) fun xs r' hr' _ => gd_ok _ hr' (List.suffix_refl _))
      · refine gd_if (fun _ => gd_ok _ (et_tail h (by omega)) (List.suffix_cons t r)) fun _ => gd_wrong h ?_
        by_cases h4 : (num t.s).2 = 4
        · rw [if_pos h4]; exact .inl rfl
        · rw [if_neg h4]; exact .inr rfl
      · exact one (gd_bnd (ih _ _ _ (et_tail h (is_k hs))) fun xs r' hr' _ => gd_must hr' fun r2 hr2 => gd_ok _ hr2 (List.suffix_refl _))
      · cases r with
        | nil => exact absurd hr et_nil
        | cons u r' =>
          refine gd_if (fun hu => ?_) fun _ => gd_ok _ hr (List.suffix_refl _)
          exact one (gd_bnd (ih _ _ _ (et_tail hr (is_k hu))) fun xs r2 hr2 _ => gd_bnd (ih _ _ _ hr2) fun ys r3 hr3 _ => gd_must hr3 fun r4 hr4 => gd_ok _ hr4 (List.suffix_refl _))
    | more n x =>
      unfold pF
      exact gd_if (fun hs => one (gd_bnd (ih _ _ _ (et_tail h (on_k hs))) fun ys r' hr' _ => ih _ _ _ hr')) fun _ => gd_ok _ h (List.suffix_refl _)
    | args xs =>
      unfold pF
      exact gd_if (fun hs => one (gd_bnd (ih _ _ _ (et_tail h (is_k hs))) fun ys r' hr' _ => ih _ _ _ hr')) fun _ => gd_ok _ h (List.suffix_refl _)
    | fin k a s ps =>
      unfold pF
      exact gd_bnd (ih _ _ _ h) fun xs r hr _ => gd_must hr fun r' hr' => gd_ok _ hr' (List.suffix_refl _)
    | inner =>
      unfold pF
      exact gd_if (fun _ => gd_wrong h (.inr rfl)) fun _ => gd_if (fun hs => one (gd_name (et_tail h (is_k hs)) fun s r hr => gd_must hr fun r hr => gd_bnd (ih _ _ _ hr) fun xs r hr _ => gd_must hr fun r hr => gd_bnd (ih _ _ _ hr) fun ys r hr _ => gd_must hr fun r hr => gd_bnd (ih _ _ _ hr) fun zs r hr _ => gd_ok _ hr (List.suffix_refl _)))
        fun _ => gd_name h fun s r hr => gd_must hr fun r hr => ih _ _ _ hr
    | inners zs =>
      unfold pF
      exact gd_if (fun hs => gd_ok _ (et_tail h (is_k hs)) (List.suffix_cons t r)) fun _ => gd_bnd (ih _ _ _ h) fun xs r hr _ => ih _ _ _ hr
    | stmt =>
      unfold pF
      refine gd_if (fun hs => one (gd_names (fun ps r hr => ?_) _ _ (et_tail h (is_k hs)))) fun _ => gd_if (fun hs => one (gd_names (fun ps r hr => ?_) _ _ (et_tail h (is_k hs)))) fun _ => gd_if (fun hs => one (gd_name (et_tail h (is_k hs)) fun s r hr => ?_)) fun _ =>
        gd_if (fun hs => one (gd_name (et_tail h (is_k hs)) fun s r hr => ?_)) fun _ => gd_if (fun hs => one (gd_name (et_tail h (is_k hs)) fun s r hr => ?_)) fun _ => ih _ _ _ h
      · exact gd_must hr fun r hr => gd_ok _ hr (List.suffix_refl _)
      · exact gd_must hr fun r hr => gd_ok _ hr (List.suffix_refl _)
      · exact gd_must hr fun r hr => ih _ _ _ hr
      · exact gd_must hr fun r hr => ih _ _ _ hr
      · refine gd_must hr fun r hr => gd_names (fun ps r hr => ?_) _ _ hr
        exact gd_must hr fun r hr => gd_must hr fun r hr => ih _ _ _ hr
    | stmts xs =>
      unfold pF
      exact gd_if (fun _ => gd_ok _ h (List.suffix_refl _)) fun _ => gd_bnd (ih _ _ _ h) fun ys r hr _ => ih _ _ _ hr
end Go.Proofs.YtpoepignpdfleaaGreatDoor.Pa
/- DERIVED. What the grammar reads is well made: kinds, texts, names and parts as the grammar has them. Of no program. By an AI agent. -/
namespace Go.Proofs.YtpoepignpdfleaaGreatDoor.Pa
open Lx
mutual
/-- A tree that an expression is; its names are of Q. -/
def gE (Q : Bs → Prop) : Tr → Prop
  | .mk k _ s n ps l => ps = [] ∧ gEs Q l ∧ n < 4294967296 ∧ ((k = 0 ∧ s = [] ∧ l = []) ∨ (n = 0 ∧ ((k = 1 ∧ Q s ∧ l = []) ∨ (k = 2 ∧ (s = [126] ∨ s = [45]) ∧ l.length = 1) ∨
      (k = 3 ∧ (s = [124] ∨ s = [94] ∨ s = [38] ∨ s = [43] ∨ s = [45]) ∧ l.length = 2) ∨ (k = 4 ∧ (s = [60, 60] ∨ s = [62, 62] ∨ s = [60, 60, 60]) ∧ l.length = 2) ∨ (k = 5 ∧ Q s ∧ l ≠ []))))
def gEs (Q : Bs → Prop) : List Tr → Prop
  | [] => True
  | x :: l => gE Q x ∧ gEs Q l
end
mutual
/-- A statement that may stand in a for. -/
def gS (Q : Bs → Prop) : Tr → Prop
  | .mk k _ s n ps l => n = 0 ∧ ps = [] ∧ Q s ∧ ((k = 10 ∧ l.length = 1 ∧ gA Q 1 l) ∨ (k = 11 ∧ 2 ≤ l.length ∧ gA Q 2 l))
/-- So many expressions, then statements. -/
def gA (Q : Bs → Prop) : Nat → List Tr → Prop
  | _, [] => True
  | 0, x :: l => gS Q x ∧ gA Q 0 l
  | i + 1, x :: l => gE Q x ∧ gA Q i l
end
/-- A program's statement. -/
def gT (Q : Bs → Prop) : Tr → Prop
  | .mk k a s n ps l => gS Q (.mk k a s n ps l) ∨ (n = 0 ∧ (((k = 6 ∨ k = 7) ∧ s = [] ∧ l = [] ∧ ps ≠ [] ∧ (∀ p ∈ ps, Q p)) ∨ ((k = 8 ∨ k = 9) ∧ ps = [] ∧ Q s ∧ ∃ x, l = [x] ∧ gE Q x) ∨
      (k = 12 ∧ ps ≠ [] ∧ (∀ p ∈ ps, Q p) ∧ Q s ∧ ∃ x, l = [x] ∧ gE Q x)))
theorem gEs_app {Q : Bs → Prop} : ∀ {a b : List Tr}, gEs Q a → gEs Q b → gEs Q (a ++ b)
  | [], _, _, h => h
  | x :: a, b, h, h' => by
    unfold gEs at h
    show gEs Q (x :: (a ++ b))
    unfold gEs
    exact ⟨h.1, gEs_app h.2 h'⟩
theorem gA_app {Q : Bs → Prop} : ∀ {a b : List Tr}, gA Q 0 a → gA Q 0 b → gA Q 0 (a ++ b)
  | [], _, _, h => h
  | x :: a, b, h, h' => by
    unfold gA at h
    show gA Q 0 (x :: (a ++ b))
    unfold gA
    exact ⟨h.1, gA_app h.2 h'⟩
theorem gE_put {Q : Bs → Prop} {x : Tr} (h : gE Q x) (a : Nat) : gE Q (x.put a) := by
  cases x
  unfold Tr.put gE
  unfold gE at h
  exact h
def TQ (Q : Bs → Prop) (l : List Tk) : Prop := ∀ t ∈ l, t.k = 1 → Q t.s
theorem TQ.tail {Q : Bs → Prop} {t : Tk} {l : List Tk} (h : TQ Q (t :: l)) : TQ Q l := fun u hu => h u (List.mem_cons_of_mem _ hu)
theorem TQ.hd {Q : Bs → Prop} {t : Tk} {l : List Tk} (h : TQ Q (t :: l)) (hk : t.k = 1) : Q t.s := h t (List.mem_cons_self ..) hk
def Gr (Q : Bs → Prop) (P : List Tr → Prop) : OO → Prop
  | some (.ok xs r) => P xs ∧ TQ Q r
  | _ => True
section
variable {Q : Bs → Prop} {P P' : List Tr → Prop}
theorem gr_wrong (l : List Tk) (e : Nat) : Gr Q P (wrong l e) := trivial
theorem gr_if {c : Prop} [Decidable c] {o p : OO} (h1 : c → Gr Q P o) (h2 : ¬ c → Gr Q P p) : Gr Q P (if c then o else p) := by
  by_cases h : c
  · rw [if_pos h]; exact h1 h
  · rw [if_neg h]; exact h2 h
theorem gr_bnd {o : OO} {f : List Tr → List Tk → OO} (h : Gr Q P o) (hf : ∀ xs r, P xs → TQ Q r → Gr Q P' (f xs r)) : Gr Q P' (bnd o f) := by
  rcases o with _ | ⟨xs, r⟩ | ⟨a, e⟩
  · trivial
  · exact hf xs r h.1 h.2
  · trivial
theorem gr_ok {xs : List Tr} {r : List Tk} (h : P xs) (hr : TQ Q r) : Gr Q P (some (.ok xs r)) := ⟨h, hr⟩
theorem gr_mono {o : OO} (h : Gr Q P o) (hP : ∀ xs, P xs → P' xs) : Gr Q P' o := by
  rcases o with _ | ⟨xs, r⟩ | ⟨a, e⟩
  · trivial
  · exact ⟨hP xs h.1, h.2⟩
  · trivial
theorem gr_must {b : Bs} {l : List Tk} {f : List Tk → OO} (h : TQ Q l) (hf : ∀ r, TQ Q r → Gr Q P (f r)) : Gr Q P (must b l f) := by
  cases l with
  | nil => trivial
  | cons t r => exact gr_if (fun _ => hf r h.tail) fun _ => gr_wrong _ _
theorem gr_name {l : List Tk} {f : Bs → List Tk → OO} (h : TQ Q l) (hf : ∀ s r, Q s → TQ Q r → Gr Q P (f s r)) : Gr Q P (nameK l f) := by
  cases l with
  | nil => trivial
  | cons t r => exact gr_if (fun hk => hf t.s r (h.hd hk) h.tail) fun _ => gr_wrong _ _
theorem gr_names {f : List Bs → List Tk → OO} (hf : ∀ ps r, ps ≠ [] → (∀ p ∈ ps, Q p) → TQ Q r → Gr Q P (f ps r)) : ∀ (ps : List Bs) (l : List Tk), (∀ p ∈ ps, Q p) → TQ Q l → Gr Q P (namesK ps l f)
  | _, [], _, _ => trivial
  | ps, [t], hp, h => by
    unfold namesK
    exact gr_if (fun hk => hf _ _ (by simp) (fun p hm => by
      rcases List.mem_append.1 hm with hm | hm
      · exact hp p hm
      · rw [List.mem_singleton.1 hm]; exact h.hd hk) h.tail) fun _ => gr_wrong _ _
  | ps, t :: u :: r, hp, h => by
    unfold namesK
    refine gr_if (fun hk => ?_) fun _ => gr_wrong _ _
    have hq : ∀ p ∈ ps ++ [t.s], Q p := fun p hm => by
      rcases List.mem_append.1 hm with hm | hm
      · exact hp p hm
      · rw [List.mem_singleton.1 hm]; exact h.hd hk
    exact gr_if (fun _ => gr_names hf _ r hq h.tail.tail) fun _ => hf _ _ (by simp) hq h.tail
end
def preM (Q : Bs → Prop) : NT → Prop
  | .more _ x => gE Q x
  | _ => True
def gN (Q : Bs → Prop) : NT → List Tr → Prop
  | .lev _, xs => ∃ x, xs = [x] ∧ gE Q x
  | .more _ _, xs => ∃ x, xs = [x] ∧ gE Q x
  | .args l, xs => ∃ ys, xs = l ++ ys ∧ gEs Q ys
  | .fin k a s ps, xs => ∃ x, xs = [.mk k a s 0 ps [x]] ∧ gE Q x
  | .inner, xs => ∃ x, xs = [x] ∧ gS Q x
  | .inners l, xs => ∃ ys, xs = l ++ ys ∧ gA Q 0 ys
  | .stmt, xs => ∃ x, xs = [x] ∧ gT Q x
  | .stmts l, xs => ∃ ys, xs = l ++ ys ∧ ∀ y ∈ ys, gT Q y
theorem on_bin {Q : Bs → Prop} {n : Nat} {t : Tk} {x y : Tr} (h : onS n t = true) (hx : gE Q x) (hy : gE Q y) (a : Nat) : gE Q (.mk (if n = 3 then 4 else 3) a t.s 0 [] [x, y]) := by
  unfold onS at h
  simp only [Bool.and_eq_true, List.contains_iff_mem] at h
  have hs := h.2
  unfold gE
  refine ⟨rfl, ⟨hx, hy, trivial⟩, by decide, .inr ⟨rfl, ?_⟩⟩
  rcases n with _ | _ | _ | _ | n
  · simp only [sOf, List.mem_singleton] at hs
    exact .inr (.inr (.inl ⟨rfl, .inl hs, rfl⟩))
  · simp only [sOf, List.mem_singleton] at hs
    exact .inr (.inr (.inl ⟨rfl, .inr (.inl hs), rfl⟩))
  · simp only [sOf, List.mem_singleton] at hs
    exact .inr (.inr (.inl ⟨rfl, .inr (.inr (.inl hs)), rfl⟩))
  · simp only [sOf, List.mem_cons, List.not_mem_nil, or_false] at hs
    exact .inr (.inr (.inr (.inl ⟨rfl, hs, rfl⟩)))
  · simp only [sOf, List.mem_cons, List.not_mem_nil, or_false] at hs
    refine .inr (.inr (.inl ⟨if_neg (by omega), ?_, rfl⟩))
    rcases hs with hs | hs
    · exact .inr (.inr (.inr (.inl hs)))
    · exact .inr (.inr (.inr (.inr hs)))
/-- What is read is well made. -/
theorem pF_made {num : Bs → Nat × Nat} {Q : Bs → Prop} (hn : ∀ b, (num b).1 < 4294967296) : ∀ (f : Nat) (nt : NT) (d : Nat) (l : List Tk), preM Q nt → TQ Q l → Gr Q (gN Q nt) (pF num f nt d l) := by
  intro f
  induction f with
  | zero => intros; trivial
  | succ f ih =>
    intro nt d l hp h
    cases nt with
    | lev n =>
      unfold pF
      refine gr_if (fun _ => gr_bnd (ih (.lev (n + 1)) _ _ trivial h) fun xs r hx hr => ?_) fun _ => ?_
      · obtain ⟨x, rfl, hx⟩ := hx
        exact ih (.more n x) _ _ hx hr
      cases l with
      | nil => trivial
      | cons t r =>
      refine gr_if (fun _ => gr_wrong _ _) fun _ => gr_if (fun hs => ?_) fun _ => gr_if (fun hk => ?_) fun _ => gr_if (fun hs => ?_) fun _ => gr_name h fun s r hs hr => ?_
      · refine gr_bnd (ih (.lev 5) _ _ trivial h.tail) fun xs r' hx hr => ⟨?_, hr⟩
        obtain ⟨x, rfl, hx⟩ := hx
        refine ⟨_, rfl, ?_⟩
        unfold gE
        refine ⟨rfl, ⟨hx, trivial⟩, by decide, .inr ⟨rfl, .inr (.inl ⟨rfl, ?_, rfl⟩)⟩⟩
        unfold isS at hs
        simp only [Bool.or_eq_true, Bool.and_eq_true, beq_iff_eq] at hs
        rcases hs with hs | hs
        · exact .inl hs.2
        · exact .inr hs.2
      · refine gr_if (fun _ => ⟨⟨_, rfl, ?_⟩, h.tail⟩) fun _ => gr_wrong _ _
        unfold gE
        exact ⟨rfl, trivial, hn _, .inl ⟨rfl, rfl, rfl⟩⟩
      · refine gr_bnd (ih (.lev 0) _ _ trivial h.tail) fun xs r' hx hr => gr_must hr fun r2 hr2 => ⟨?_, hr2⟩
        obtain ⟨x, rfl, hx⟩ := hx
        exact ⟨_, rfl, gE_put hx _⟩
      · have leaf : gE Q (.mk 1 t.at_ s 0 [] []) := by
          unfold gE
          exact ⟨rfl, trivial, by decide, .inr ⟨rfl, .inl ⟨rfl, hs, rfl⟩⟩⟩
        cases r with
        | nil => exact ⟨⟨_, rfl, leaf⟩, hr⟩
        | cons u r' =>
          refine gr_if (fun hu => ?_) fun _ => ⟨⟨_, rfl, leaf⟩, hr⟩
          refine gr_bnd (ih (.lev 0) _ _ trivial hr.tail) fun xs r2 hx hr2 => gr_bnd (ih (.args xs) _ _ trivial hr2) fun ys r3 hy hr3 => gr_must hr3 fun r4 hr4 => ⟨?_, hr4⟩
          obtain ⟨x, rfl, hx⟩ := hx
          obtain ⟨zs, rfl, hz⟩ := hy
          refine ⟨_, rfl, ?_⟩
          unfold gE
          exact ⟨rfl, ⟨hx, hz⟩, by decide, .inr ⟨rfl, .inr (.inr (.inr (.inr ⟨rfl, hs, by simp⟩)))⟩⟩
    | more n x =>
      unfold pF
      cases l with
      | nil => exact ⟨⟨_, rfl, hp⟩, h⟩
      | cons t r =>
        refine gr_if (fun hs => gr_bnd (ih (.lev (n + 1)) _ _ trivial h.tail) fun ys r' hy hr' => ?_) fun _ => ⟨⟨_, rfl, hp⟩, h⟩
        obtain ⟨y, rfl, hy⟩ := hy
        exact ih (.more n (.mk (if n = 3 then 4 else 3) x.place t.s 0 [] [x, y])) d r' (on_bin hs hp hy x.place) hr'
    | args xs =>
      unfold pF
      cases l with
      | nil => exact ⟨⟨[], by simp, trivial⟩, h⟩
      | cons t r =>
        refine gr_if (fun hs => gr_bnd (ih (.lev 0) _ _ trivial h.tail) fun ys r' hy hr' => ?_) fun _ => ⟨⟨[], by simp, trivial⟩, h⟩
        obtain ⟨y, rfl, hy⟩ := hy
        refine gr_mono (ih (.args (xs ++ [y])) d r' trivial hr') fun zs hz => ?_
        obtain ⟨us, rfl, hu⟩ := hz
        exact ⟨y :: us, by simp, hy, hu⟩
    | fin k a s ps =>
      unfold pF
      refine gr_bnd (ih (.lev 0) _ _ trivial h) fun xs r hx hr => gr_must hr fun r' hr' => ⟨?_, hr'⟩
      obtain ⟨x, rfl, hx⟩ := hx
      exact ⟨x, rfl, hx⟩
    | inner =>
      unfold pF
      cases l with
      | nil => trivial
      | cons t r =>
        refine gr_if (fun _ => gr_wrong _ _) fun _ => gr_if (fun hs => ?_) fun _ => gr_name h fun s r hs hr => gr_must hr fun r hr => ?_
        · refine gr_name h.tail fun s r hs hr => gr_must hr fun r hr => gr_bnd (ih (.lev 0) _ _ trivial hr) fun xs r hx hr => gr_must hr fun r hr => gr_bnd (ih (.lev 0) _ _ trivial hr) fun ys r hy hr => gr_must hr fun r hr => gr_bnd (ih (.inners (xs ++ ys)) _ _ trivial hr) fun zs r hz hr => ⟨?_, hr⟩
          obtain ⟨x, rfl, hx⟩ := hx
          obtain ⟨y, rfl, hy⟩ := hy
          obtain ⟨us, rfl, hu⟩ := hz
          refine ⟨_, rfl, ?_⟩
          unfold gS
          refine ⟨rfl, rfl, hs, .inr ⟨rfl, by simp, ?_⟩⟩
          show gA Q 2 (x :: y :: us)
          unfold gA
          refine ⟨hx, ?_⟩
          unfold gA
          exact ⟨hy, hu⟩
        · refine gr_mono (ih (.fin 10 t.at_ s []) d r trivial hr) fun zs hz => ?_
          obtain ⟨x, rfl, hx⟩ := hz
          refine ⟨_, rfl, ?_⟩
          unfold gS
          refine ⟨rfl, rfl, hs, .inl ⟨rfl, rfl, ?_⟩⟩
          unfold gA
          exact ⟨hx, by unfold gA; trivial⟩
    | inners zs =>
      unfold pF
      cases l with
      | nil => trivial
      | cons t r =>
        refine gr_if (fun _ => ⟨⟨[], by simp, by unfold gA; trivial⟩, h.tail⟩) fun _ => gr_bnd (ih .inner _ _ trivial h) fun xs r' hx hr' => ?_
        obtain ⟨x, rfl, hx⟩ := hx
        refine gr_mono (ih (.inners (zs ++ [x])) d r' trivial hr') fun ys hz => ?_
        obtain ⟨us, rfl, hu⟩ := hz
        exact ⟨x :: us, by simp, by unfold gA; exact ⟨hx, hu⟩⟩
    | stmt =>
      unfold pF
      cases l with
      | nil => trivial
      | cons t r =>
        have fin : ∀ (k : Nat) (s : Bs) (ps : List Bs) (r : List Tk), TQ Q r → (∀ x, gE Q x → gT Q (.mk k t.at_ s 0 ps [x])) → Gr Q (gN Q .stmt) (pF num f (.fin k t.at_ s ps) d r) := fun k s ps r hr hk => by
          refine gr_mono (ih (.fin k t.at_ s ps) d r trivial hr) fun zs hz => ?_
          obtain ⟨x, rfl, hx⟩ := hz
          exact ⟨_, rfl, hk x hx⟩
        refine gr_if (fun _ => ?_) fun _ => gr_if (fun _ => ?_) fun _ => gr_if (fun _ => ?_) fun _ => gr_if (fun _ => ?_) fun _ => gr_if (fun _ => ?_) fun _ => ?_
        · exact gr_names (fun ps r h0 hq hr => gr_must hr fun r hr => gr_ok ⟨_, rfl, by unfold gT; exact .inr ⟨rfl, .inl ⟨.inl rfl, rfl, rfl, h0, hq⟩⟩⟩ hr) [] r (by simp) h.tail
        · exact gr_names (fun ps r h0 hq hr => gr_must hr fun r hr => gr_ok ⟨_, rfl, by unfold gT; exact .inr ⟨rfl, .inl ⟨.inr rfl, rfl, rfl, h0, hq⟩⟩⟩ hr) [] r (by simp) h.tail
        · exact gr_name h.tail fun s r hs hr => gr_must hr fun r hr => fin 8 s [] r hr fun x hx => by unfold gT; exact .inr ⟨rfl, .inr (.inl ⟨.inl rfl, rfl, hs, x, rfl, hx⟩)⟩
        · exact gr_name h.tail fun s r hs hr => gr_must hr fun r hr => fin 9 s [] r hr fun x hx => by unfold gT; exact .inr ⟨rfl, .inr (.inl ⟨.inr rfl, rfl, hs, x, rfl, hx⟩)⟩
        · exact gr_name h.tail fun s r hs hr => gr_must hr fun r hr => gr_names (fun ps r h0 hq hr => gr_must hr fun r hr => gr_must hr fun r hr => fin 12 s ps r hr fun x hx => by unfold gT; exact .inr ⟨rfl, .inr (.inr ⟨rfl, h0, hq, hs, x, rfl, hx⟩)⟩) [] r (by simp) hr
        · refine gr_mono (ih .inner 0 (t :: r) trivial h) fun zs hz => ?_
          obtain ⟨x, rfl, hx⟩ := hz
          refine ⟨x, rfl, ?_⟩
          cases x
          unfold gT; exact .inl hx
    | stmts xs =>
      unfold pF
      cases l with
      | nil => trivial
      | cons t r =>
        refine gr_if (fun _ => ⟨⟨[], by simp, by simp⟩, h⟩) fun _ => gr_bnd (ih .stmt _ _ trivial h) fun ys r' hy hr' => ?_
        obtain ⟨y, rfl, hy⟩ := hy
        refine gr_mono (ih (.stmts (xs ++ [y])) d r' trivial hr') fun zs hz => ?_
        obtain ⟨us, rfl, hu⟩ := hz
        refine ⟨y :: us, by simp, fun z hz => ?_⟩
        rcases List.mem_cons.1 hz with rfl | hz
        · exact hy
        · exact hu z hz
end Go.Proofs.YtpoepignpdfleaaGreatDoor.Pa
