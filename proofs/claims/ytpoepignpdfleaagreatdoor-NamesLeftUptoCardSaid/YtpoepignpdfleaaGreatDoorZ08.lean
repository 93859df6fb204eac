/- DERIVED. NmMap, NmSt in one text. By an AI agent. -/
import Derived.Test.YtpoepignpdfleaaGreatDoorZ04
import Derived.Maps.OwnSet
import Derived.Maps.Views
import Derived.StringKeys
import Derived.ProofKit
import Derived.Test.YtpoepignpdfleaaGreatDoorZ07
import Derived.Test.YtpoepignpdfleaaGreatDoorZ03
/- DERIVED. The program's two maps, as plain functions of a text. By an AI agent. -/
namespace Go.Proofs.YtpoepignpdfleaaGreatDoor.Nm
open Go Go.ChangeShapes Go.WideShapes Go.ChangeAt Go.RowKit Lx Args Pa Sh
set_option linter.unusedVariables false
set_option linter.unusedSimpArgs false
/-- How a meaning reads. -/
def meanR : Value → Option (DataW Unit × List MemPlace)
  | .agg cs => match cs.toList with
    | [.int .i64 a, .int .i64 p] => some (.agg [.lit (.int .i64 a), .lit (.int .i64 p)], [])
    | _ => none
  | _ => none
def mD (m : Nat × Nat) : DataW Unit := .agg [.lit (.int .i64 (m.1 : Int)), .lit (.int .i64 (m.2 : Int))]
theorem meanR_mk (a p : Int) : meanR (.agg #[.int .i64 a, .int .i64 p]) = some (.agg [.lit (.int .i64 a), .lit (.int .i64 p)], []) := by simp [meanR]
theorem meanR_inv {v : Value} {m : Nat × Nat} {ps : List MemPlace} (h : meanR v = some (mD m, ps)) : v = .agg #[.int .i64 (m.1 : Int), .int .i64 (m.2 : Int)] := by
  unfold meanR at h
  split at h
  · rename_i cs
    split at h
    · rename_i a p hcs
      simp only [Option.some.injEq, Prod.mk.injEq, mD, DataW.agg.injEq, List.cons.injEq, DataW.lit.injEq, Lit.int.injEq, true_and, and_true] at h
      obtain ⟨⟨rfl, rfl⟩, _⟩ := h
      have : cs = [Value.int .i64 (m.1 : Int), .int .i64 (m.2 : Int)].toArray := by rw [← hcs]
      rw [this]
    · cases h
  · cases h
theorem uStr : Tryz.prog.underlying 9 = some .string := by kernel_rfl
theorem law : Maps.Keyed Tryz.prog 9 := Maps.string_keyed uStr
theorem key_of {s : Bs} (hs : s.length ≤ maxLen) : keyOf Tryz.prog 9 (.string ⟨s.toArray⟩) = some (.string s) := by
  have := WideMaps.keyOf_string_mk (P := Tryz.prog) (k := 9) uStr (s := ⟨s.toArray⟩) (by simpa [ByteArray.size] using hs)
  simpa using this
theorem isKeyS (s : Bs) : WideAt.IsKeyLit (.string s) := trivial
theorem key_ne {s t : Bs} (h : t ≠ s) : (Lit.string t) ≠ .string s := fun e => h (by cases e; rfl)
/-- A map of meanings. -/
structure MpK (w : World) (b n : Nat) (kn : Kn) : Prop where
  ex : ∃ D : DataW Unit, w.ownsMap Tryz.prog 9 meanR b n D ∧ ∀ s : Bs, s.length ≤ maxLen → Maps.has D (.string s) = (kn s).isSome ∧ ∀ m, kn s = some m → ∀ z, D.atKey (.string s) z = mD m
  sorts : ∀ s m, kn s = some m → m.1 ≤ 3 ∧ m.2 ≤ maxLen
/-- A set. -/
structure MpS (w : World) (b n : Nat) (f : Bs → Bool) : Prop where
  ex : ∃ D : DataW Unit, w.ownsMap Tryz.prog 9 (unitElem (H := Unit)) b n D ∧ ∀ s : Bs, s.length ≤ maxLen → Maps.has D (.string s) = f s
theorem zMn (w : World) : (zeroValue 58).run Tryz.prog w = .ok (.agg #[.int .i64 0, .int .i64 0]) w := by kernel_rfl
theorem zUn (w : World) : (zeroValue 83).run Tryz.prog w = .ok (.agg #[]) w := by kernel_rfl
section
variable {w w' : World} {b n : Nat} {kn : Kn} {f : Bs → Bool} {s : Bs}
theorem atKey_some {D : DataW Unit} {kl : Lit} {y : DataW Unit} (h : ∀ z, D.atKey kl z = y) (z : DataW Unit) : D.atKey kl z = y := h z
theorem MpK.lt (h : MpK w b n kn) : b < w.heap.size := by obtain ⟨D, h1, _⟩ := h.ex; exact h1.lt
theorem MpS.lt (h : MpS w b n f) : b < w.heap.size := by obtain ⟨D, h1⟩ := h.ex; exact h1.1.lt
theorem own_heap {R : Value → Option (DataW Unit × List MemPlace)} {D : DataW Unit} (h : w.ownsMap Tryz.prog 9 R b n D) (e : w'.heap[b]? = w.heap[b]?) : w'.ownsMap Tryz.prog 9 R b n D := by
  obtain ⟨es, clock, hb, h2⟩ := h
  exact ⟨es, clock, e.trans hb, h2⟩
theorem MpK.heap (h : MpK w b n kn) (e : w'.heap[b]? = w.heap[b]?) : MpK w' b n kn := by
  obtain ⟨D, h1, h2⟩ := h.ex; exact ⟨⟨D, own_heap h1 e, h2⟩, h.sorts⟩
theorem MpS.heap (h : MpS w b n f) (e : w'.heap[b]? = w.heap[b]?) : MpS w' b n f := by
  obtain ⟨D, h1, h2⟩ := h.ex; exact ⟨⟨D, own_heap h1 e, h2⟩⟩
theorem MpK.upd {X : Nat → Prop} (h : MpK w b n kn) (hu : Upd X w w') (hx : ¬ X b) : MpK w' b n kn := h.heap (hu.block b h.lt hx)
theorem MpS.upd {X : Nat → Prop} (h : MpS w b n f) (hu : Upd X w w') (hx : ¬ X b) : MpS w' b n f := h.heap (hu.block b h.lt hx)
theorem MpK.mono (h : MpK w b n kn) {m : Nat} (hm : n ≤ m) : MpK w b m kn := by
  obtain ⟨D, h1, h2⟩ := h.ex; exact ⟨⟨D, h1.mono hm, h2⟩, h.sorts⟩
theorem MpS.mono (h : MpS w b n f) {m : Nat} (hm : n ≤ m) : MpS w b m f := by
  obtain ⟨D, h1, h2⟩ := h.ex; exact ⟨⟨D, h1.mono hm, h2⟩⟩
/-- What stands there: nothing is (0, 0). -/
def kAt (kn : Kn) (s : Bs) : Nat × Nat := (kn s).getD (0, 0)
theorem MpK.val (h : MpK w b n kn) (hs : s.length ≤ maxLen) {D : DataW Unit} (hD : ∀ s : Bs, s.length ≤ maxLen → Maps.has D (.string s) = (kn s).isSome ∧ ∀ m, kn s = some m → ∀ z, D.atKey (.string s) z = mD m) {v : Value} {ps : List MemPlace}
    (hv : meanR v = some (D.atKey (.string s) (mD (0, 0)), ps)) : v = .agg #[.int .i64 ((kAt kn s).1 : Int), .int .i64 ((kAt kn s).2 : Int)] := by
  obtain ⟨h1, h2⟩ := hD s hs
  unfold kAt
  cases hk : kn s with
  | none =>
    rw [hk] at h1
    rw [Maps.atKey_of_not_has h1] at hv
    exact meanR_inv hv
  | some m =>
    rw [h2 m hk] at hv
    exact meanR_inv hv
theorem MpK.look (h : MpK w b n kn) (hs : s.length ≤ maxLen) : (Instr.lookup 59 (.map (some b)) (.string ⟨s.toArray⟩) true).run Tryz.prog w = .ok (.tuple #[.agg #[.int .i64 ((kAt kn s).1 : Int), .int .i64 ((kAt kn s).2 : Int)], .bool (kn s).isSome]) w := by
  obtain ⟨D, h1, h2⟩ := h.ex
  obtain ⟨v, ps, hr, hv⟩ := h1.look_ok law Tryz.underlying59 (zMn w) (zd := mD (0, 0)) (meanR_mk 0 0) (key_of hs)
  rw [hr, h.val hs h2 hv, (h2 s hs).1]
theorem MpK.look1 (h : MpK w b n kn) (hs : s.length ≤ maxLen) : (Instr.lookup 59 (.map (some b)) (.string ⟨s.toArray⟩) false).run Tryz.prog w = .ok (.agg #[.int .i64 ((kAt kn s).1 : Int), .int .i64 ((kAt kn s).2 : Int)]) w := by
  obtain ⟨D, h1, h2⟩ := h.ex
  obtain ⟨v, ps, hr, hv⟩ := h1.lookup law Tryz.underlying59 (zMn w) (zd := mD (0, 0)) (meanR_mk 0 0) (key_of hs)
  rw [hr, h.val hs h2 hv]
theorem MpS.look (h : MpS w b n f) (hs : s.length ≤ maxLen) : (Instr.lookup 51 (.map (some b)) (.string ⟨s.toArray⟩) true).run Tryz.prog w = .ok (.tuple #[.agg #[], .bool (f s)]) w := by
  obtain ⟨D, h1, h2⟩ := h.ex
  obtain ⟨v, ps, hr, hv⟩ := h1.look_ok law Tryz.underlying51 (zUn w) (zd := .agg []) unitElem_mk (key_of hs)
  obtain ⟨rfl, _⟩ := unitElem_inv hv
  rw [hr, h2 s hs]
theorem turned_upd {X : Nat → Prop} (h : w.mapTurned w' b) (hx : X b) : Upd X w w' := (Upd.refl X w).grown h.grown fun k hk _ => by cases hk; exact hx
theorem MpK.put (h : MpK w b n kn) (hs : s.length ≤ maxLen) (hn : n < maxLen) (m : Nat × Nat) (hm : m.1 ≤ 3) (hm2 : m.2 ≤ maxLen) :
    ∃ w', (Instr.mapUpdate 59 (.map (some b)) (.string ⟨s.toArray⟩) (.agg #[.int .i64 (m.1 : Int), .int .i64 (m.2 : Int)])).run Tryz.prog w = .ok () w' ∧ MpK w' b (n + 1) (kn.put s m) ∧ w.mapTurned w' b := by
  obtain ⟨D, h1, h2⟩ := h.ex
  obtain ⟨w', hr, h3, h4⟩ := h1.store law Tryz.underlying59 hn (key_of hs) (d := mD m) (meanR_mk _ _)
  refine ⟨w', hr, ⟨⟨_, h3, fun t ht => ?_⟩, fun t m' ht => ?_⟩, h4⟩
  · unfold Kn.put
    by_cases e : t = s
    · subst e
      rw [if_pos rfl]
      refine ⟨Maps.has_put_same h1.isMap (isKeyS _) _, fun m' hm' z => ?_⟩
      cases hm'
      exact Maps.atKey_put_same h1.isMap (isKeyS _) _ _
    · rw [if_neg e]
      refine ⟨(Maps.has_put_other (key_ne e) _).trans (h2 t ht).1, fun m' hm' z => (Maps.atKey_put_other (key_ne e) _ _).trans ((h2 t ht).2 m' hm' z)⟩
  · unfold Kn.put at ht
    by_cases e : t = s
    · rw [if_pos e] at ht; cases ht; exact ⟨hm, hm2⟩
    · rw [if_neg e] at ht; exact h.sorts t m' ht
theorem MpK.del (h : MpK w b n kn) (hs : s.length ≤ maxLen) (ty : TypeId) :
    ∃ w', (Builtin.delete_ #[59, 9] ty #[.map (some b), .string ⟨s.toArray⟩]).run Tryz.prog w = .ok (.tuple #[]) w' ∧ MpK w' b n (kn.dels [s]) ∧ w.mapTurned w' b := by
  obtain ⟨D, h1, h2⟩ := h.ex
  obtain ⟨w', hr, h3, h4⟩ := h1.drop law Tryz.underlying59 (key_of hs) ty
  refine ⟨w', hr, ⟨⟨_, h3, fun t ht => ?_⟩, fun t m' ht => ?_⟩, h4⟩
  · unfold Kn.dels
    by_cases e : t = s
    · subst e
      rw [if_pos (by simp)]
      exact ⟨Maps.has_del_same, fun m' hm' => by cases hm'⟩
    · rw [if_neg (by simpa using e)]
      exact ⟨(Maps.has_del_other (key_ne e)).trans (h2 t ht).1, fun m' hm' z => (Maps.atKey_del_other (key_ne e) _).trans ((h2 t ht).2 m' hm' z)⟩
  · unfold Kn.dels at ht
    by_cases e : t ∈ [s]
    · rw [if_pos e] at ht; cases ht
    · rw [if_neg e] at ht; exact h.sorts t m' ht
theorem MpS.put (h : MpS w b n f) (hs : s.length ≤ maxLen) (hn : n < maxLen) :
    ∃ w', (Instr.mapUpdate 51 (.map (some b)) (.string ⟨s.toArray⟩) (.agg #[])).run Tryz.prog w = .ok () w' ∧ MpS w' b (n + 1) (fun t => f t || t == s) ∧ w.mapTurned w' b := by
  obtain ⟨D, h1, h2⟩ := h.ex
  obtain ⟨w', hr, h3, h4⟩ := h1.store law Tryz.underlying51 hn (key_of hs) (d := .agg []) unitElem_mk
  refine ⟨w', hr, ⟨⟨_, h3, fun t ht => ?_⟩⟩, h4⟩
  by_cases e : t = s
  · subst e
    rw [Maps.has_put_same h1.isMap (isKeyS _)]
    simp
  · rw [Maps.has_put_other (key_ne e), h2 t ht]
    have : (t == s) = false := by simpa using e
    rw [this, Bool.or_false]
theorem MpK.made (w : World) : MpK (w.alloc (.map #[] 0)) w.heap.size 0 (fun _ => none) :=
  ⟨⟨_, World.ownsMap_made w _ _ _, fun s _ => ⟨rfl, fun m hm => by cases hm⟩⟩, fun s m hm => by cases hm⟩
theorem MpS.made (w : World) : MpS (w.alloc (.map #[] 0)) w.heap.size 0 (fun _ => false) := ⟨⟨_, World.ownsMap_made w _ _ _, fun s _ => rfl⟩⟩
end
end Go.Proofs.YtpoepignpdfleaaGreatDoor.Nm
/- DERIVED. What a program's checker holds, as it lies in memory. By an AI agent. -/
namespace Go.Proofs.YtpoepignpdfleaaGreatDoor.Nm
open Go Go.ChangeShapes Go.WideShapes Go.ChangeAt Go.RowKit Lx Args Pa Sh
set_option linter.unusedVariables false
set_option linter.unusedSimpArgs false
abbrev nzA (k a : Int) (s : Bs) (n : Nat) (A : Option Addr) (la cA : Nat) (B : Option Addr) (lb cB : Nat) : Value := .agg #[.int .i64 k, .string ⟨s.toArray⟩, .int .u32 (n : Int), .int .i64 a, .slice A la cA, .slice B lb cB]
abbrev nB (k a : Int) (s : Bs) (n : Nat) (A : Option Addr) (la cA : Nat) (B : Option Addr) (lb cB : Nat) : Array Value := #[.int .i64 k, .string ⟨s.toArray⟩, .int .u32 (n : Int), .int .i64 a, .slice A la cA, .slice B lb cB]
theorem a_box (w : World) (cs : Array Value) : ∃ w1, w.alloc (.cells cs 26) = w1 ∧ Below w.heap.size w w1 ∧ Blk w1 w.heap.size 26 cs ∧ w1.heap.size = w.heap.size + 1 :=
  ⟨_, rfl, (Below.refl _ _).alloc (Nat.le_refl _) _, Blk.new _ _ _, by simp⟩
theorem own_updV {X : Nat → Prop} {w w' : World} {base : Nat} {e : TypeId} {size n : Nat} {v : Value} {xs : List Value} (h : w.ownsRow base e size v n xs) (hu : Upd X w w') (hX : ∀ g, v.ownBlock = some g → ¬ X g) : w'.ownsRow base e size v n xs := by
  obtain ⟨h1, h2⟩ := h
  refine ⟨h1, ?_⟩
  rcases h2 with h2 | ⟨g, cap, cur, e1, h3, h4, h5⟩
  · exact .inl h2
  · have hg : g < w.heap.size := (Array.getElem?_eq_some_iff.1 h4).1
    exact .inr ⟨g, cap, cur, e1, h3, (hu.block _ hg (hX g (by rw [e1]; rfl))).trans h4, h5⟩
theorem own_atV {w : World} {lo : Nat} {e : TypeId} {size n : Nat} {v : Value} {xs : List Value} (h : w.ownsRow lo e size v n xs) : ∀ g, v.ownBlock = some g → lo ≤ g ∧ g < w.heap.size := fun g hg => by
  rcases h.2 with ⟨h, _⟩ | ⟨g', cap, cur, h, hb, hh, _⟩
  · rw [h] at hg; cases hg
  · rw [h] at hg; cases hg
    exact ⟨hb, (Array.getElem?_eq_some_iff.1 hh).1⟩
/-- The first of a row. -/
theorem own_take {w : World} {lo : Nat} {e : TypeId} {size n k c : Nat} {A : Option Addr} {xs : List Value} (h : w.ownsRow lo e size (.slice A n c) n xs) (hk : k ≤ n) (hA : A ≠ none) : w.ownsRow lo e size (.slice A k c) k (xs.take (k * size)) := by
  obtain ⟨h1, h2⟩ := h
  have hks : k * size ≤ n * size := Nat.mul_le_mul_right _ hk
  refine ⟨by rw [List.length_take, h1]; omega, ?_⟩
  rcases h2 with ⟨h2, _⟩ | ⟨g, cap, cur, e1, h3, h4, h5, h6, h7, h8⟩
  · cases h2; exact absurd rfl hA
  · cases e1
    refine .inr ⟨g, c, cur, rfl, h3, h4, by omega, h6, h7, ?_⟩
    rw [← h8, List.take_take]
    congr 1
    omega
/-- Append of what lies, of nothing too: where the result lies. -/
theorem run_app_any {P : Program} {w : World} (base : Nat) (t ty e : TypeId) (i : TypeInfo) (z : Value) (size bytes : Nat) (ht : P.underlying t = some (.slice e)) (hi : P.info? e = some i) (hz : i.zero = some z)
    (hsize : i.size = size) (hby : i.bytes = bytes) (hzs : z.cells.size = size) (hsz : 0 < size) (v : Value) (n : Nat) (xs : List Value) (hown : w.ownsRow base e size v n xs)
    (A : Option Addr) (m d : Nat) (news : List Value) (hl : news.length = m * size) (hL : Lies w A news) (h1 : ∀ u ∈ news, u.oneCell' = true) (h63 : n + m ≤ maxLen) (hbytes : (n + m) * bytes ≤ 140737488355328) (hbase : base ≤ w.heap.size) :
    ∃ v' w', (Builtin.append_ #[t, t] ty #[v, .slice A m d]).run P w = .ok v' w' ∧ w'.ownsRow base e size v' (n + m) (xs ++ news) ∧ w.grownBy w' v.ownBlock ∧ (v'.ownBlock = v.ownBlock ∨ v'.ownBlock = some w.heap.size) := by
  rcases Nat.eq_zero_or_pos m with hm | hm
  · subst hm
    have hn : news = [] := List.eq_nil_of_length_eq_zero (by omega)
    subst hn
    refine ⟨v, w, ?_, by simpa using hown, World.grownBy.refl w _, .inl rfl⟩
    have hf : ∀ A, (Builtin.firstCells i.size 0 (.slice A 0 d)).run P w = .ok #[] w := fun A => by
      cases A with
      | none => exact run_firstCells_none _ _ _ _ _
      | some a => exact run_firstCells_some (P := P) w i.size 0 a 0 d [] (by simp) (by simp)
    rcases hown.2 with ⟨rfl, rfl⟩ | ⟨g, cap, cur, rfl, _, _, hnc, _⟩
    · simp [Builtin.append_, run_underlying ht, sizeOf, typeInfo, hi, Builtin.lenOf, hf]
    · simp [Builtin.append_, run_underlying ht, sizeOf, typeInfo, hi, Builtin.lenOf, hf, hnc, storeCells]
  · cases A with
    | none =>
      have : 0 < news.length := by rw [hl]; exact Nat.mul_pos hm hsz
      obtain ⟨a, ha, _⟩ := hL 0 (news[0]) (List.getElem?_eq_getElem this)
      cases ha
    | some a => exact run_append_where (P := P) w base t ty e i z size bytes ht hi hz hsize hby hzs hsz v n xs hown a m d news hl (fun j u hj => by
      obtain ⟨b, hb, hc⟩ := hL j u hj
      cases hb; exact hc) h1 h63 hbytes hbase hm
/-- An output's cells. -/
def laC (x : Bs × Bool) : List Value := [.string ⟨x.1.toArray⟩, .bool false, .bool x.2]
def Dis (L : List (Option Nat)) : Prop := L.Pairwise fun a b => ∀ x, a = some x → b ≠ some x
/-- The checker's box with all that it holds, in blocks of N. -/
structure CV (N : Nat → Prop) (lo : Nat) (w : World) (g : Nat) (vs vp vo ve : Value) (kb ob : Nat) (se pu : List Bs) (ou : List (Bs × Bool)) (en : List Bs) (kn : Kn) (f : Bs → Bool) (m : Nat) : Prop where
  blk : Blk w g 61 #[vs, vp, vo, .map (some kb), .map (some ob), ve]
  os : w.ownsRow lo 9 1 vs se.length (se.map strV)
  op : w.ownsRow lo 9 1 vp pu.length (pu.map strV)
  oo : w.ownsRow lo 44 3 vo ou.length (ou.flatMap laC)
  oe : w.ownsRow lo 9 1 ve en.length (en.map strV)
  mp : MpK w kb m kn
  ms : MpS w ob m f
  dis : Dis [some g, some kb, some ob, vs.ownBlock, vp.ownBlock, vo.ownBlock, ve.ownBlock]
  inN : ∀ x ∈ [some g, some kb, some ob, vs.ownBlock, vp.ownBlock, vo.ownBlock, ve.ownBlock], ∀ b, x = some b → N b
  lo_ : lo ≤ g ∧ lo ≤ kb ∧ lo ≤ ob ∧ lo ≤ w.heap.size
section
variable {N N' X : Nat → Prop} {lo : Nat} {w w' : World} {g : Nat} {vs vp vo ve v' : Value} {kb ob : Nat} {se pu : List Bs} {ou : List (Bs × Bool)} {en : List Bs} {kn : Kn} {f : Bs → Bool} {m m' : Nat}
theorem CV.far (h : CV N lo w g vs vp vo ve kb ob se pu ou en kn f m) (hu : Upd X w w') (hX : ∀ b, N b → ¬ X b) : CV N lo w' g vs vp vo ve kb ob se pu ou en kn f m :=
  ⟨h.blk.upd hu (hX g (h.inN _ (by simp) g rfl)), own_updV h.os hu fun b hb => hX b (h.inN _ (by simp) b hb), own_updV h.op hu fun b hb => hX b (h.inN _ (by simp) b hb), own_updV h.oo hu fun b hb => hX b (h.inN _ (by simp) b hb),
    own_updV h.oe hu fun b hb => hX b (h.inN _ (by simp) b hb), h.mp.upd hu (hX kb (h.inN _ (by simp) kb rfl)), h.ms.upd hu (hX ob (h.inN _ (by simp) ob rfl)), h.dis, h.inN, h.lo_.1, h.lo_.2.1, h.lo_.2.2.1, Nat.le_trans h.lo_.2.2.2 hu.size⟩
theorem CV.below (h : CV N lo w g vs vp vo ve kb ob se pu ou en kn f m) (hb : Below w.heap.size w w') : CV N lo w' g vs vp vo ve kb ob se pu ou en kn f m := h.far (Upd.of_below hb fun _ => False) fun _ _ h => h
theorem CV.lts (h : CV N lo w g vs vp vo ve kb ob se pu ou en kn f m) : ∀ x ∈ [some g, some kb, some ob, vs.ownBlock, vp.ownBlock, vo.ownBlock, ve.ownBlock], ∀ b, x = some b → b < w.heap.size ∧ lo ≤ b := fun x hx b hb => by
  simp only [List.mem_cons, List.not_mem_nil, or_false] at hx
  rcases hx with e | e | e | e | e | e | e
  · rw [e] at hb; cases hb; exact ⟨h.blk.lt, h.lo_.1⟩
  · rw [e] at hb; cases hb; exact ⟨h.mp.lt, h.lo_.2.1⟩
  · rw [e] at hb; cases hb; exact ⟨h.ms.lt, h.lo_.2.2.1⟩
  · rw [e] at hb; exact (own_atV h.os b hb).symm
  · rw [e] at hb; exact (own_atV h.op b hb).symm
  · rw [e] at hb; exact (own_atV h.oo b hb).symm
  · rw [e] at hb; exact (own_atV h.oe b hb).symm
theorem CV.mono (h : CV N lo w g vs vp vo ve kb ob se pu ou en kn f m) (hN : ∀ b, N b → b < w.heap.size → lo ≤ b → N' b) : CV N' lo w g vs vp vo ve kb ob se pu ou en kn f m :=
  ⟨h.blk, h.os, h.op, h.oo, h.oe, h.mp, h.ms, h.dis, fun x hx b hb => hN b (h.inN x hx b hb) (h.lts x hx b hb).1 (h.lts x hx b hb).2, h.lo_⟩
theorem CV.more (h : CV N lo w g vs vp vo ve kb ob se pu ou en kn f m) (hm : m ≤ m') : CV N lo w g vs vp vo ve kb ob se pu ou en kn f m' := ⟨h.blk, h.os, h.op, h.oo, h.oe, h.mp.mono hm, h.ms.mono hm, h.dis, h.inN, h.lo_⟩
theorem CV.ne (h : CV N lo w g vs vp vo ve kb ob se pu ou en kn f m) : (g ≠ kb ∧ g ≠ ob ∧ vs.ownBlock ≠ some g ∧ vp.ownBlock ≠ some g ∧ vo.ownBlock ≠ some g ∧ ve.ownBlock ≠ some g) ∧ (kb ≠ ob ∧ vs.ownBlock ≠ some kb ∧ vp.ownBlock ≠ some kb ∧ vo.ownBlock ≠ some kb ∧ ve.ownBlock ≠ some kb) ∧
    (vs.ownBlock ≠ some ob ∧ vp.ownBlock ≠ some ob ∧ vo.ownBlock ≠ some ob ∧ ve.ownBlock ≠ some ob) ∧ ((∀ x, vs.ownBlock = some x → vp.ownBlock ≠ some x) ∧ (∀ x, vs.ownBlock = some x → vo.ownBlock ≠ some x) ∧ (∀ x, vs.ownBlock = some x → ve.ownBlock ≠ some x)) ∧
    ((∀ x, vp.ownBlock = some x → vo.ownBlock ≠ some x) ∧ (∀ x, vp.ownBlock = some x → ve.ownBlock ≠ some x)) ∧ (∀ x, vo.ownBlock = some x → ve.ownBlock ≠ some x) := by
  have hd := h.dis
  unfold Dis at hd
  simp only [List.pairwise_cons, List.mem_cons, List.not_mem_nil, or_false, forall_eq_or_imp, forall_eq, List.Pairwise.nil, and_true] at hd
  obtain ⟨⟨a1, a2, a3, a4, a5, a6⟩, ⟨b2, b3, b4, b5, b6⟩, ⟨c3, c4, c5, c6⟩, ⟨d4, d5, d6⟩, ⟨e5, e6⟩, f6, _⟩ := hd
  exact ⟨⟨fun e => a1 g rfl (by rw [e]), fun e => a2 g rfl (by rw [e]), a3 g rfl, a4 g rfl, a5 g rfl, a6 g rfl⟩, ⟨fun e => b2 kb rfl (by rw [e]), b3 kb rfl, b4 kb rfl, b5 kb rfl, b6 kb rfl⟩, ⟨c3 ob rfl, c4 ob rfl, c5 ob rfl, c6 ob rfl⟩, ⟨d4, d5, d6⟩, ⟨e5, e6⟩, f6⟩
/-- The known map is another one. -/
theorem CV.kn' {kn' : Kn} (h : CV N lo w g vs vp vo ve kb ob se pu ou en kn f m) (hu : Upd (fun b => b = kb) w w') (hk : MpK w' kb m' kn') (hm : m ≤ m') : CV N lo w' g vs vp vo ve kb ob se pu ou en kn' f m' := by
  obtain ⟨⟨a1, a2, a3, a4, a5, a6⟩, ⟨b2, b3, b4, b5, b6⟩, c, d⟩ := h.ne
  exact ⟨h.blk.upd hu a1, own_updV h.os hu fun b hb e => b3 (by rw [hb, e]), own_updV h.op hu fun b hb e => b4 (by rw [hb, e]), own_updV h.oo hu fun b hb e => b5 (by rw [hb, e]), own_updV h.oe hu fun b hb e => b6 (by rw [hb, e]), hk,
    (h.ms.upd hu (fun e => b2 e.symm)).mono hm, h.dis, h.inN, h.lo_.1, h.lo_.2.1, h.lo_.2.2.1, Nat.le_trans h.lo_.2.2.2 hu.size⟩
/-- The set of outputs is another one. -/
theorem CV.ob' {f' : Bs → Bool} (h : CV N lo w g vs vp vo ve kb ob se pu ou en kn f m) (hu : Upd (fun b => b = ob) w w') (hk : MpS w' ob m' f') (hm : m ≤ m') : CV N lo w' g vs vp vo ve kb ob se pu ou en kn f' m' := by
  obtain ⟨⟨a1, a2, a3, a4, a5, a6⟩, ⟨b2, b3, b4, b5, b6⟩, ⟨c3, c4, c5, c6⟩, d⟩ := h.ne
  exact ⟨h.blk.upd hu a2, own_updV h.os hu fun b hb e => c3 (by rw [hb, e]), own_updV h.op hu fun b hb e => c4 (by rw [hb, e]), own_updV h.oo hu fun b hb e => c5 (by rw [hb, e]), own_updV h.oe hu fun b hb e => c6 (by rw [hb, e]), (h.mp.upd hu b2).mono hm,
    hk, h.dis, h.inN, h.lo_.1, h.lo_.2.1, h.lo_.2.2.1, Nat.le_trans h.lo_.2.2.2 hu.size⟩
theorem dis_set {L : List (Option Nat)} {i : Nat} {o o' : Option Nat} {n : Nat} (h : Dis L) (hi : L[i]? = some o) (ho : o' = o ∨ o' = some n) (hl : ∀ x ∈ L, ∀ b, x = some b → b < n) : Dis (L.set i o') := by
  unfold Dis at h ⊢
  rw [List.pairwise_iff_getElem] at h ⊢
  intro a b ha hb hab x hx hy
  rw [List.length_set] at ha hb
  rw [List.getElem_set] at hx hy
  obtain ⟨hil, hio⟩ := List.getElem?_eq_some_iff.1 hi
  by_cases e1 : i = a
  · rw [if_pos e1] at hx
    rw [if_neg (by omega)] at hy
    rcases ho with e | e
    · refine h a b ha hb hab x ?_ hy
      subst e1
      rw [hio, ← e]; exact hx
    · rw [e] at hx
      cases hx
      have := hl _ (List.getElem_mem hb) _ hy
      omega
  · rw [if_neg e1] at hx
    by_cases e2 : i = b
    · rw [if_pos e2] at hy
      rcases ho with e | e
      · refine h a b ha hb hab x hx ?_
        subst e2
        rw [hio, ← e]; exact hy
      · rw [e] at hy
        cases hy
        have := hl _ (List.getElem_mem ha) _ hx
        omega
    · rw [if_neg e2] at hy
      exact h a b ha hb hab x hx hy
theorem far_own {w : World} {base : Nat} {e : TypeId} {size n g i : Nat} {v u : Value} {xs : List Value} (h : w.ownsRow base e size v n xs) (hg : v.ownBlock ≠ some g) : (w.setCell ⟨g, i, none⟩ u).ownsRow base e size v n xs :=
  own_updV h ((Upd.refl (fun b => b = g) w).setCell (p := ⟨g, i, none⟩) (fun _ => rfl) u) fun b hb e => hg (by rw [hb, e])
theorem far_heap {w : World} {g i b : Nat} {u : Value} (h : b ≠ g) : (w.setCell ⟨g, i, none⟩ u).heap[b]? = w.heap[b]? := Below.heap_setCell w ⟨g, i, none⟩ u b h
/-- Row vs is another one. -/
theorem CV.vs' {se' : List Bs} (h : CV N lo w g vs vp vo ve kb ob se pu ou en kn f m) (hu : Upd (fun b => vs.ownBlock = some b) w w') (hown : w'.ownsRow lo 9 1 v' se'.length (se'.map strV)) (ha : v'.ownBlock = vs.ownBlock ∨ ∃ n, w.heap.size ≤ n ∧ v'.ownBlock = some n) :
    CV (fun b => N b ∨ w.heap.size ≤ b) lo (w'.setCell ⟨g, 0, none⟩ v') g v' vp vo ve kb ob se' pu ou en kn f m := by
  obtain ⟨⟨a1, a2, a3, a4, a5, a6⟩, ⟨b2, b3, b4, b5, b6⟩, ⟨c3, c4, c5, c6⟩, ⟨d4, d5, d6⟩, ⟨e5, e6⟩, f6⟩ := h.ne
  have hg' : v'.ownBlock ≠ some g := fun e => by
    rcases ha with ha | ⟨n, hn, ha⟩
    · rw [ha] at e; exact a3 e
    · rw [ha] at e; cases e; have := h.blk.lt; omega
  have hsz : w.heap.size ≤ (w'.setCell ⟨g, 0, none⟩ v').heap.size := Nat.le_trans hu.size (Upd.setCell (Upd.refl (fun b => b = g) w') (p := ⟨g, 0, none⟩) (fun _ => rfl) v').size
  refine ⟨(h.blk.upd hu a3).set 0 v', far_own hown hg', far_own (own_updV h.op hu (fun b hb e => d4 b e hb)) a4, far_own (own_updV h.oo hu (fun b hb e => d5 b e hb)) a5, far_own (own_updV h.oe hu (fun b hb e => d6 b e hb)) a6, (h.mp.upd hu b3).heap (far_heap (Ne.symm a1)), (h.ms.upd hu c3).heap (far_heap (Ne.symm a2)), ?_, ?_, h.lo_.1, h.lo_.2.1, h.lo_.2.2.1, Nat.le_trans h.lo_.2.2.2 hsz⟩
  · have hl := fun x hx b hb => (h.lts x hx b hb).1
    rcases ha with ha | ⟨n, hn, ha⟩
    · exact dis_set (i := 3) (n := w.heap.size) h.dis rfl (.inl ha) hl
    · exact dis_set (i := 3) (n := n) h.dis rfl (.inr ha) fun x hx b hb => Nat.lt_of_lt_of_le (hl x hx b hb) hn
  · intro x hx b hb
    have hN := h.inN
    simp only [List.mem_cons, List.not_mem_nil, or_false, forall_eq_or_imp, forall_eq] at hN hx
    obtain ⟨n0, n1, n2, n3, n4, n5, n6⟩ := hN
    have hv : ∀ b, v'.ownBlock = some b → N b ∨ w.heap.size ≤ b := fun b hb => by
      rcases ha with ha | ⟨n, hn, ha⟩
      · rw [ha] at hb; exact .inl (n3 b hb)
      · rw [ha] at hb; cases hb; exact .inr hn
    rcases hx with e | e | e | e | e | e | e
    · rw [e] at hb; exact .inl (n0 b hb)
    · rw [e] at hb; exact .inl (n1 b hb)
    · rw [e] at hb; exact .inl (n2 b hb)
    · rw [e] at hb; exact hv b hb
    · rw [e] at hb; exact .inl (n4 b hb)
    · rw [e] at hb; exact .inl (n5 b hb)
    · rw [e] at hb; exact .inl (n6 b hb)
/-- Row vp is another one. -/
theorem CV.vp' {pu' : List Bs} (h : CV N lo w g vs vp vo ve kb ob se pu ou en kn f m) (hu : Upd (fun b => vp.ownBlock = some b) w w') (hown : w'.ownsRow lo 9 1 v' pu'.length (pu'.map strV)) (ha : v'.ownBlock = vp.ownBlock ∨ ∃ n, w.heap.size ≤ n ∧ v'.ownBlock = some n) :
    CV (fun b => N b ∨ w.heap.size ≤ b) lo (w'.setCell ⟨g, 1, none⟩ v') g vs v' vo ve kb ob se pu' ou en kn f m := by
  obtain ⟨⟨a1, a2, a3, a4, a5, a6⟩, ⟨b2, b3, b4, b5, b6⟩, ⟨c3, c4, c5, c6⟩, ⟨d4, d5, d6⟩, ⟨e5, e6⟩, f6⟩ := h.ne
  have hg' : v'.ownBlock ≠ some g := fun e => by
    rcases ha with ha | ⟨n, hn, ha⟩
    · rw [ha] at e; exact a4 e
    · rw [ha] at e; cases e; have := h.blk.lt; omega
  have hsz : w.heap.size ≤ (w'.setCell ⟨g, 1, none⟩ v').heap.size := Nat.le_trans hu.size (Upd.setCell (Upd.refl (fun b => b = g) w') (p := ⟨g, 1, none⟩) (fun _ => rfl) v').size
  refine ⟨(h.blk.upd hu a4).set 1 v', far_own (own_updV h.os hu (fun b hb e => d4 b hb e)) a3, far_own hown hg', far_own (own_updV h.oo hu (fun b hb e => e5 b e hb)) a5, far_own (own_updV h.oe hu (fun b hb e => e6 b e hb)) a6, (h.mp.upd hu b4).heap (far_heap (Ne.symm a1)), (h.ms.upd hu c4).heap (far_heap (Ne.symm a2)), ?_, ?_, h.lo_.1, h.lo_.2.1, h.lo_.2.2.1, Nat.le_trans h.lo_.2.2.2 hsz⟩
  · have hl := fun x hx b hb => (h.lts x hx b hb).1
    rcases ha with ha | ⟨n, hn, ha⟩
    · exact dis_set (i := 4) (n := w.heap.size) h.dis rfl (.inl ha) hl
    · exact dis_set (i := 4) (n := n) h.dis rfl (.inr ha) fun x hx b hb => Nat.lt_of_lt_of_le (hl x hx b hb) hn
  · intro x hx b hb
    have hN := h.inN
    simp only [List.mem_cons, List.not_mem_nil, or_false, forall_eq_or_imp, forall_eq] at hN hx
    obtain ⟨n0, n1, n2, n3, n4, n5, n6⟩ := hN
    have hv : ∀ b, v'.ownBlock = some b → N b ∨ w.heap.size ≤ b := fun b hb => by
      rcases ha with ha | ⟨n, hn, ha⟩
      · rw [ha] at hb; exact .inl (n4 b hb)
      · rw [ha] at hb; cases hb; exact .inr hn
    rcases hx with e | e | e | e | e | e | e
    · rw [e] at hb; exact .inl (n0 b hb)
    · rw [e] at hb; exact .inl (n1 b hb)
    · rw [e] at hb; exact .inl (n2 b hb)
    · rw [e] at hb; exact .inl (n3 b hb)
    · rw [e] at hb; exact hv b hb
    · rw [e] at hb; exact .inl (n5 b hb)
    · rw [e] at hb; exact .inl (n6 b hb)
/-- Row vo is another one. -/
theorem CV.vo' {ou' : List (Bs × Bool)} (h : CV N lo w g vs vp vo ve kb ob se pu ou en kn f m) (hu : Upd (fun b => vo.ownBlock = some b) w w') (hown : w'.ownsRow lo 44 3 v' ou'.length (ou'.flatMap laC)) (ha : v'.ownBlock = vo.ownBlock ∨ ∃ n, w.heap.size ≤ n ∧ v'.ownBlock = some n) :
    CV (fun b => N b ∨ w.heap.size ≤ b) lo (w'.setCell ⟨g, 2, none⟩ v') g vs vp v' ve kb ob se pu ou' en kn f m := by
  obtain ⟨⟨a1, a2, a3, a4, a5, a6⟩, ⟨b2, b3, b4, b5, b6⟩, ⟨c3, c4, c5, c6⟩, ⟨d4, d5, d6⟩, ⟨e5, e6⟩, f6⟩ := h.ne
  have hg' : v'.ownBlock ≠ some g := fun e => by
    rcases ha with ha | ⟨n, hn, ha⟩
    · rw [ha] at e; exact a5 e
    · rw [ha] at e; cases e; have := h.blk.lt; omega
  have hsz : w.heap.size ≤ (w'.setCell ⟨g, 2, none⟩ v').heap.size := Nat.le_trans hu.size (Upd.setCell (Upd.refl (fun b => b = g) w') (p := ⟨g, 2, none⟩) (fun _ => rfl) v').size
  refine ⟨(h.blk.upd hu a5).set 2 v', far_own (own_updV h.os hu (fun b hb e => d5 b hb e)) a3, far_own (own_updV h.op hu (fun b hb e => e5 b hb e)) a4, far_own hown hg', far_own (own_updV h.oe hu (fun b hb e => f6 b e hb)) a6, (h.mp.upd hu b5).heap (far_heap (Ne.symm a1)), (h.ms.upd hu c5).heap (far_heap (Ne.symm a2)), ?_, ?_, h.lo_.1, h.lo_.2.1, h.lo_.2.2.1, Nat.le_trans h.lo_.2.2.2 hsz⟩
  · have hl := fun x hx b hb => (h.lts x hx b hb).1
    rcases ha with ha | ⟨n, hn, ha⟩
    · exact dis_set (i := 5) (n := w.heap.size) h.dis rfl (.inl ha) hl
    · exact dis_set (i := 5) (n := n) h.dis rfl (.inr ha) fun x hx b hb => Nat.lt_of_lt_of_le (hl x hx b hb) hn
  · intro x hx b hb
    have hN := h.inN
    simp only [List.mem_cons, List.not_mem_nil, or_false, forall_eq_or_imp, forall_eq] at hN hx
    obtain ⟨n0, n1, n2, n3, n4, n5, n6⟩ := hN
    have hv : ∀ b, v'.ownBlock = some b → N b ∨ w.heap.size ≤ b := fun b hb => by
      rcases ha with ha | ⟨n, hn, ha⟩
      · rw [ha] at hb; exact .inl (n5 b hb)
      · rw [ha] at hb; cases hb; exact .inr hn
    rcases hx with e | e | e | e | e | e | e
    · rw [e] at hb; exact .inl (n0 b hb)
    · rw [e] at hb; exact .inl (n1 b hb)
    · rw [e] at hb; exact .inl (n2 b hb)
    · rw [e] at hb; exact .inl (n3 b hb)
    · rw [e] at hb; exact .inl (n4 b hb)
    · rw [e] at hb; exact hv b hb
    · rw [e] at hb; exact .inl (n6 b hb)
/-- Row ve is another one. -/
theorem CV.ve' {en' : List Bs} (h : CV N lo w g vs vp vo ve kb ob se pu ou en kn f m) (hu : Upd (fun b => ve.ownBlock = some b) w w') (hown : w'.ownsRow lo 9 1 v' en'.length (en'.map strV)) (ha : v'.ownBlock = ve.ownBlock ∨ ∃ n, w.heap.size ≤ n ∧ v'.ownBlock = some n) :
    CV (fun b => N b ∨ w.heap.size ≤ b) lo (w'.setCell ⟨g, 5, none⟩ v') g vs vp vo v' kb ob se pu ou en' kn f m := by
  obtain ⟨⟨a1, a2, a3, a4, a5, a6⟩, ⟨b2, b3, b4, b5, b6⟩, ⟨c3, c4, c5, c6⟩, ⟨d4, d5, d6⟩, ⟨e5, e6⟩, f6⟩ := h.ne
  have hg' : v'.ownBlock ≠ some g := fun e => by
    rcases ha with ha | ⟨n, hn, ha⟩
    · rw [ha] at e; exact a6 e
    · rw [ha] at e; cases e; have := h.blk.lt; omega
  have hsz : w.heap.size ≤ (w'.setCell ⟨g, 5, none⟩ v').heap.size := Nat.le_trans hu.size (Upd.setCell (Upd.refl (fun b => b = g) w') (p := ⟨g, 5, none⟩) (fun _ => rfl) v').size
  refine ⟨(h.blk.upd hu a6).set 5 v', far_own (own_updV h.os hu (fun b hb e => d6 b hb e)) a3, far_own (own_updV h.op hu (fun b hb e => e6 b hb e)) a4, far_own (own_updV h.oo hu (fun b hb e => f6 b hb e)) a5, far_own hown hg', (h.mp.upd hu b6).heap (far_heap (Ne.symm a1)), (h.ms.upd hu c6).heap (far_heap (Ne.symm a2)), ?_, ?_, h.lo_.1, h.lo_.2.1, h.lo_.2.2.1, Nat.le_trans h.lo_.2.2.2 hsz⟩
  · have hl := fun x hx b hb => (h.lts x hx b hb).1
    rcases ha with ha | ⟨n, hn, ha⟩
    · exact dis_set (i := 6) (n := w.heap.size) h.dis rfl (.inl ha) hl
    · exact dis_set (i := 6) (n := n) h.dis rfl (.inr ha) fun x hx b hb => Nat.lt_of_lt_of_le (hl x hx b hb) hn
  · intro x hx b hb
    have hN := h.inN
    simp only [List.mem_cons, List.not_mem_nil, or_false, forall_eq_or_imp, forall_eq] at hN hx
    obtain ⟨n0, n1, n2, n3, n4, n5, n6⟩ := hN
    have hv : ∀ b, v'.ownBlock = some b → N b ∨ w.heap.size ≤ b := fun b hb => by
      rcases ha with ha | ⟨n, hn, ha⟩
      · rw [ha] at hb; exact .inl (n6 b hb)
      · rw [ha] at hb; cases hb; exact .inr hn
    rcases hx with e | e | e | e | e | e | e
    · rw [e] at hb; exact .inl (n0 b hb)
    · rw [e] at hb; exact .inl (n1 b hb)
    · rw [e] at hb; exact .inl (n2 b hb)
    · rw [e] at hb; exact .inl (n3 b hb)
    · rw [e] at hb; exact .inl (n4 b hb)
    · rw [e] at hb; exact .inl (n5 b hb)
    · rw [e] at hb; exact hv b hb
end
end Go.Proofs.YtpoepignpdfleaaGreatDoor.Nm
