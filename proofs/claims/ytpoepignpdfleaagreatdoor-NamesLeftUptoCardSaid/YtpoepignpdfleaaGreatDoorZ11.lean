/- DERIVED. NmTb, NmNd in one text. By an AI agent. -/
import Derived.Test.YtpoepignpdfleaaGreatDoorRows
import Derived.ProofKit
import Derived.LaidMore
import Derived.LaidLaws
import Derived.OpenShut
import Derived.MakeChecks
import Derived.Stop.Joined
import Derived.Lay
import Derived.Test.YtpoepignpdfleaaGreatDoorZ04
import Derived.Test.YtpoepignpdfleaaGreatDoorZ10
/- DERIVED. A start for the witness. By an AI agent. -/
namespace Go.Proofs.YtpoepignpdfleaaGreatDoor.Nm
open Go.ChangeShapes Go.WideShapes Go.ChangeAt Go.RowKit
set_option linter.unusedVariables false
theorem fit_one {H : Type} {P : Program} {t : TypeId} {ts : List TypeId} {d : DataW H} {ds : List (DataW H)} (h : (DataW.weightsEach P (t :: ts) (d :: ds)).all (· ≤ reachBytes) = true) :
    (d.weights P t).all (· ≤ reachBytes) = true ∧ (DataW.weightsEach P ts ds).all (· ≤ reachBytes) = true := by
  simp only [DataW.weightsEach, List.all_append, Bool.and_eq_true] at h
  exact h
/-- A start that fits, its tables laid. -/
theorem witRow {H : Type} {enc : TypeId × Value → H} {C : Checked} {os : Os} {f : FuncId} {fn : Func} {s : OpenSpec} {conds : List PathCond} {apart : Bool} {laid : List (String × DataW Unit)} (modest : Bool) (w0 : World) (args : Array Value) (hos : w0.os = os)
    (hsh : (w0.forCall (fun _ _ => 0) ⟨#[], args, []⟩).Shaped C.prog)
    (hok : Input.okWideB C.prog (w0.forCall (fun _ _ => 0) ⟨#[], args, []⟩) f ⟨#[], args, []⟩ = true)
    (hrow : s.preRow enc C.prog fn conds apart laid (w0.forCall (fun _ _ => 0) ⟨#[], args, []⟩).memory args) :
    ∃ (w : World) (tape : Tape) (i : Input), w.os = os ∧ (w.forCall tape i).Shaped C.prog ∧ i.vars = [] ∧ Input.okWide C.prog (w.forCall tape i) .any w.heap.size f i ∧
      s.preRow enc C.prog fn conds apart laid (w.forCall tape i).memory i.args ∧ ({ modest := modest } : Assume).holds C.prog (lone (Frame.enter C.prog f i.args .normal) [] (w.forCall tape i)) :=
  ⟨w0, fun _ _ => 0, ⟨#[], args, []⟩, hos, hsh, (Input.okWide_of_okWideB (base := 0) hok).1, (Input.okWide_of_okWideB hok).2, hrow, by
    simp only [Assume.holds]
    exact ⟨by simp, by simp, fun _ => Modest.zero, by simp, by simp⟩⟩
end Go.Proofs.YtpoepignpdfleaaGreatDoor.Nm
/- DERIVED. A tree that came in by value: how long its texts are. By an AI agent. -/
namespace Go.Proofs.YtpoepignpdfleaaGreatDoor.Sh
open Go Go.ChangeShapes Go.WideShapes Go.ChangeAt Go.RowKit Lx Args Pa
set_option linter.unusedVariables false
set_option linter.unusedSimpArgs false
section
variable {H : Type} {enc : TypeId × Value → H} {w : World} {base : Nat} {spare : Nat → Bool} {held : Bool}
theorem strs_len {n len : Nat} {a : Addr} {elems : List (DataW H × List MemPlace)} (hlen : elems.length = len)
    (hel : ∀ i, i < len → (w.cells? base (a.add (i * 1)) 1).bind (DataW.trod enc Tryz.prog w base spare held n 9) = elems[i]?) :
    ∀ m i, i + m = len → ∃ ps : List Bs, ps.length = m ∧ (∀ j u, (ps.map strV)[j]? = some u → w.cell? (a.add (i + j)) = some u) ∧ ∀ p ∈ ps, p.length ≤ maxLen := by
  intro m
  induction m with
  | zero => intro i hi; exact ⟨[], rfl, fun j u h => by simp at h, by simp⟩
  | succ m ih =>
    intro i hi
    obtain ⟨ps, h1, h2, h3⟩ := ih (i + 1) (by omega)
    have h := hel i (by omega)
    have hei : elems[i]? = some (elems[i]'(by omega)) := List.getElem?_eq_getElem (by omega)
    rw [hei, Option.bind_eq_some_iff] at h
    obtain ⟨c1, hc1, ht1⟩ := h
    obtain ⟨hcb, hcl, hat⟩ := World.cells?_some hc1
    match c1, hcl with
    | [x0], _ =>
      obtain ⟨s, e0, d0, hsl⟩ := DataW.trod_string uSt ht1
      simp only [List.cons.injEq, and_true] at e0
      subst e0
      have a0 := hat 0 (by omega)
      rw [add0, Nat.mul_one] at a0
      refine ⟨s.data.toList :: ps, by simp [h1], fun j u hj => ?_, ?_⟩
      · cases j with
        | zero =>
          have : u = .string s := by simpa [strV] using hj.symm
          rw [this]; exact a0
        | succ j =>
          rw [show i + (j + 1) = i + 1 + j by omega]
          exact h2 j u (by simpa using hj)
      · intro p hp
        rcases List.mem_cons.1 hp with rfl | hp
        · rw [show s.data.toList.length = s.size by simp]; exact hsl
        · exact h3 p hp
theorem nodes_len {n len : Nat} {a : Addr} {elems : List (DataW H × List MemPlace)} (hlen : elems.length = len)
    (hel : ∀ i, i < len → (w.cells? base (a.add (i * 6)) 6).bind (DataW.trod enc Tryz.prog w base spare held n 26) = elems[i]?)
    (IH : ∀ (cs : List Value) (x : DataW H × List MemPlace), DataW.trod enc Tryz.prog w base spare held n 26 cs = some x → ∃ z, TIc True w z cs ∧ Nm.lenz z) :
    ∀ m i, i + m = len → ∃ (l : List Tz) (css : List (List Value)), l.length = m ∧ (TsIc True w l css ∧ Nm.lenzs l) ∧ (∀ j u, css.flatten[j]? = some u → w.cell? (a.add (i * 6 + j)) = some u) := by
  intro m
  induction m with
  | zero => intro i hi; exact ⟨[], [], rfl, ⟨by unfold TsIc; rfl, trivial⟩, fun j u h => by simp at h⟩
  | succ m ih =>
    intro i hi
    obtain ⟨l, css, h1, ⟨hT, hN⟩, h2⟩ := ih (i + 1) (by omega)
    have h := hel i (by omega)
    have hei : elems[i]? = some (elems[i]'(by omega)) := List.getElem?_eq_getElem (by omega)
    rw [hei, Option.bind_eq_some_iff] at h
    obtain ⟨c1, hc1, ht1⟩ := h
    obtain ⟨hcb, hcl, hat⟩ := World.cells?_some hc1
    obtain ⟨z, hz, hn⟩ := IH c1 _ ht1
    refine ⟨z :: l, c1 :: css, by simp [h1], ⟨by unfold TsIc; exact ⟨c1, css, rfl, hz, hT⟩, by unfold Nm.lenzs; exact ⟨hn, hN⟩⟩, fun j u hj => ?_⟩
    · rw [List.flatten_cons] at hj
      by_cases h6 : j < 6
      · rw [List.getElem?_append_left (by omega)] at hj
        have a0 := hat j (by omega)
        rw [add_add] at a0
        rw [← hj]
        exact a0
      · rw [List.getElem?_append_right (by omega), hcl] at hj
        have := h2 _ u hj
        rw [show i * 6 + j = (i + 1) * 6 + (j - 6) by omega]
        exact this
set_option maxRecDepth 100000 in
/-- What lies in a node's cells. -/
theorem node_inl : ∀ (fuel : Nat) (cs : List Value) (x : DataW H × List MemPlace), DataW.trod enc Tryz.prog w base spare held fuel 26 cs = some x → ∃ z, TIc True w z cs ∧ Nm.lenz z := by
  intro fuel
  induction fuel using Nat.strongRecOn with
  | ind fuel IH =>
    intro cs x h
    obtain ⟨xs, n, hn, hx, hlen, hxl, hg⟩ := DataW.trod_struct Tryz.underlying26 h
    rw [cNd] at hlen
    match cs, hlen, xs, hxl with
    | [q0, q1, q2, q3, q4, q5], _, [y0, y1, y2, y3, y4, y5], _ =>
      have g0 := hg 0 _ rfl; have g1 := hg 1 _ rfl; have g2 := hg 2 _ rfl; have g3 := hg 3 _ rfl; have g4 := hg 4 _ rfl; have g5 := hg 5 _ rfl
      simp [cIn, cSt, cU, cSl, cSs] at g0 g1 g2 g3 g4 g5
      obtain ⟨k, e0, d0, wk⟩ := DataW.trod_int uIn g0
      obtain ⟨s, e1, d1, hsl⟩ := DataW.trod_string uSt g1
      obtain ⟨v, e2, d2, wv⟩ := DataW.trod_int uU g2
      obtain ⟨a, e3, d3, wa⟩ := DataW.trod_int uIn g3
      simp only [List.cons.injEq, and_true] at e0 e1 e2 e3
      subst e0 e1 e2 e3
      have hv := bounds_u32 wv
      obtain ⟨m, rfl⟩ : ∃ m : Nat, v = (m : Int) := ⟨v.toNat, by omega⟩
      have hS : ∃ (l : List Tz) (A : Option Addr) (cA : Nat) (css : List (List Value)), q4 = .slice A l.length cA ∧ l.length ≤ maxLen ∧ Nm.lenzs l ∧ Lies w A css.flatten ∧ TsIc True w l css ∧ (l.length ≤ cA ∧ cA ≤ maxLen) := by
        rcases DataW.trod_slice uSl g4 with ⟨e, _⟩ | ⟨a, len, cap, elems, rest, n', hn', e, hy, hbl, hl, hm, hle, hel, hsp, hns⟩
        · simp only [List.cons.injEq, and_true] at e
          subst e
          exact ⟨[], none, 0, [], rfl, by decide, trivial, Lies.nil _ _, by unfold TsIc; rfl, ⟨Nat.le_refl _, by decide⟩⟩
        · simp only [List.cons.injEq, and_true] at e
          subst e
          rw [cNd] at hel
          obtain ⟨l, css, h1, ⟨h2, hN⟩, h3⟩ := nodes_len hle hel (IH n' (by omega)) len 0 (by omega)
          refine ⟨l, some a, cap, css, by rw [h1], by omega, hN, fun j u hj => ⟨a, rfl, ?_⟩, h2, ⟨by omega, hm⟩⟩
          · have := h3 j u hj
            rwa [show 0 * 6 + j = j by omega] at this
      have hP : ∃ (ps : List Bs) (B : Option Addr) (cB : Nat), q5 = .slice B ps.length cB ∧ ps.length ≤ maxLen ∧ Lies w B (ps.map strV) ∧ (∀ p ∈ ps, p.length ≤ maxLen) := by
        rcases DataW.trod_slice uSs g5 with ⟨e, _⟩ | ⟨a, len, cap, elems, rest, n', hn', e, hy, hbl, hl, hm, hle, hel, hsp, hns⟩
        · simp only [List.cons.injEq, and_true] at e
          subst e
          exact ⟨[], none, 0, rfl, by decide, Lies.nil _ _, by simp⟩
        · simp only [List.cons.injEq, and_true] at e
          subst e
          rw [cSt] at hel
          obtain ⟨ps, h1, h3, h4⟩ := strs_len hle hel len 0 (by omega)
          refine ⟨ps, some a, cap, by rw [h1], by omega, fun j u hj => ⟨a, rfl, ?_⟩, ?_⟩
          · have := h3 j u hj
            rwa [Nat.zero_add] at this
          · exact h4
      obtain ⟨l, A, cA, css, rfl, hlA, hnA, hLA, hTA, hcA⟩ := hS
      obtain ⟨ps, B, cB, rfl, hlB, hLB, hbB⟩ := hP
      refine ⟨.mk k a s.data.toList m ps l, ?_, ?_⟩
      · unfold TIc
        exact ⟨A, cA, B, cB, rfl, hlA, hlB, hLB, css, hLA, hTA, fun _ => hcA⟩
      · unfold Nm.lenz; exact ⟨by rw [show s.data.toList.length = s.size by simp]; exact hsl, hbB, hnA⟩
set_option maxRecDepth 100000 in
/-- A node that came in by value. -/
theorem node_len {r : Reach} {b0 : Nat} {v : Value} {d : DataW H} {p : List MemPlace} (hv : Value.okWide Tryz.prog w r b0 26 v) (h : DataW.Trod enc Tryz.prog w base spare held 26 v d p) :
    ∃ z cs, v = .agg cs.toArray ∧ TIc True w z cs ∧ Nm.lenz z := by
  obtain ⟨cs, rfl, _⟩ := okWide_struct Tryz.underlying26 hv
  obtain ⟨fuel, hf⟩ := h
  obtain ⟨z, h1, h2⟩ := node_inl fuel _ _ hf
  exact ⟨z, _, by simp [Value.cells], h1, h2⟩
end
end Go.Proofs.YtpoepignpdfleaaGreatDoor.Sh
