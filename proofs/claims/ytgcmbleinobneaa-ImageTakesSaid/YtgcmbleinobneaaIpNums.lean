/- DERIVED. Contracts of the program's reader: numbers. By an AI agent. -/
import Derived.Test.YtgcmbleinobneaaIpRdr
namespace Go.Proofs.Ytgcmbleinobneaa.Ip
open Go.ChangeShapes Go.WideShapes Go.ChangeAt Go.RowKit Go.Shelf Args ImRef
set_option linter.unusedVariables false
attribute [local go_sem] Oper.semAt_some
theorem upd_own {β : Type} {X : Nat → Prop} {w2 : World} {B : Nat} (hB : w2.heap.size ≤ B) : OwnFrom B (fun (_ : β) W => Upd X w2 W) :=
  fun _ _ _ _ hs hg hr => hs.grown hg fun k e hk => by have := (hr k e).1; omega
theorem blk_own {β : Type} (g : Nat) (t : TypeId) (f : β → Array Value) : Own (fun s W => Blk W g t (f s)) := fun s X Y row hs hg hrow =>
  (hg.block g hs.lt (fun e' => by
    obtain ⟨o, ho, hc⟩ := hrow g e'.symm
    rw [show X.heap[g]? = _ from hs] at ho; cases ho; cases hc)).trans hs
theorem upd_putObj {X : Nat → Prop} {w W : World} (h : Upd X w W) (D : Nat) (o o' : Obj) (hD : w.heap.size ≤ D) (hk : W.heap[D]? = some o) : Upd X w (W.putObj D o') :=
  h.grown (grownBy_putObj' W D o') fun k e hk => by cases e; omega
set_option maxRecDepth 100000 in
set_option maxHeartbeats 4000000 in
theorem numbers_no (n₀ r : Nat) (ys : List Int) (e : Int) (T : Option Addr) (k tc : Nat) (w : World) (hR : Rdr n₀ w r ys e) (hk : k ≤ 4) (h : e ≠ 0 ∨ (ys.length : Int) < 4 * (k : Int)) :
    Calls Try.prog 28 #[.pointer (some ⟨r, 0, none⟩), .slice T k tc] w fun en w' => (∃ v, en = .returned v) ∧ Rdr n₀ w' r ys (failE e 3) ∧ Upd (· = r) w w' := by
  have hrl : r < w.heap.size := by obtain ⟨_, _, hb, _⟩ := hR; exact hb.lt
  have hn : n₀ ≤ r := by obtain ⟨_, _, _, _, hn⟩ := hR; exact hn
  have hu0 : Upd (· = r) w ((w.alloc (.cells #[.slice T k tc] 77)).alloc (.cells #[.int .i64 0] 3)) := ((Upd.refl (· = r) w).alloc _).alloc _
  have hR1 : Rdr n₀ ((w.alloc (.cells #[.slice T k tc] 77)).alloc (.cells #[.int .i64 0] 3)) r ys e := hR.upd (X := fun _ => False) (((Upd.refl _ w).alloc _).alloc _) (fun _ h => h.elim) (fun h => h)
  have hc := cut_no n₀ r ys e (4 * (k : Int)) _ hR1 h
  have HC := Lib.hid hc; have HU0 := Lib.hid hu0
  clear hR hu0 hR1 hc h
  refine (callsIn_wide (n := 3)).1 ?_
  refine callsIn_of_wp_marks Try.func28 rfl trivial ?_ rfl
  simp only [Try.ntmps28, List.size_toArray, List.length_cons, List.length_nil, Nat.reduceAdd, Nat.reduceSub, Array.replicate_succ, Array.replicate_zero, List.push_toArray, List.append_toArray, List.nil_append, List.cons_append]
  gi_wp2_with ((first
    | (refine ⟨trivial, ?_⟩; gi_at_call 39; refine (callsIn_wide.2 HC.out).mono ?_; rintro en w1 ⟨rfl, h1, h2⟩; have HR1 := Lib.hid h1; have HU1 := Lib.hid (HU0.out.trans h2); clear h1 h2)
    | (refine ⟨trivial, ?_⟩; gi_at_call 35; refine (pieces_in Fence.wide _ trivial rfl _ _ _ 4 _).mono ?_; rintro e w' ⟨rfl, rfl⟩)))
  have bB := Boxed.new w1 28 (.slice none 0 0)
  have bS := Boxed.new (w1.alloc (.cells #[.slice none 0 0] 28)) 3 (.int .i64 4)
  rw [World.size_alloc] at bS
  have hu3 : Upd (· = r) w1 ((w1.alloc (.cells #[.slice none 0 0] 28)).alloc (.cells #[.int .i64 4] 3)) := ((Upd.refl (· = r) w1).alloc _).alloc _
  have hws := HU1.out.size
  refine wpIn_rangeFunc_ownG rfl (by decide) (gf := 40) (lb := #[.pointer (some ⟨w1.heap.size, 0, none⟩), .pointer (some ⟨w1.heap.size + 1, 0, none⟩)]) rfl trivial (enters_of Try.func40 (by kernel_rfl) rfl)
    (pieces_stops Fence.wide 2 trivial rfl (by decide) w1.heap.size (w1.heap.size + 1) 0 0 0 0 4 none (by decide) (by decide) (fun h => absurd h (by decide)) (Nat.le_refl _) (by decide) _ (by simp only [World.size_alloc]; omega) (by simp only [World.size_alloc]; omega) (bB.alloc _).cell bS.cell) kc_t (kc_b (by simp only [World.size_alloc]; omega)) (Below.refl _ _) (fun _ => rfl)
    (fun (pre : List Nat) W => Upd (fun _ => False) w1 W)
    (fun _ _ _ => False)
    (upd_own (by simp; omega))
    (fun _ _ _ _ _ hs _ _ => hs)
    (((Upd.refl _ w1).alloc _).alloc _)
    (fun x => { tmps := #[.pointer (some ⟨r, 0, none⟩), .slice T k tc, undef, .pointer (some ⟨w.heap.size, 0, none⟩), .pointer (some ⟨w.heap.size + 1, 0, none⟩), pc 0 0 0 4 x, .pointer (some ⟨r, 0, none⟩), .slice T k tc, .int .i64 k, .int .i64 (4 * (k : Int)), .slice none 0 0,
        .func (.func 40) #[] #[.pointer (some ⟨w1.heap.size, 0, none⟩), .pointer (some ⟨w1.heap.size + 1, 0, none⟩)], pc 0 0 0 4 x, undef, undef, undef, undef, undef, undef, undef, undef, undef, undef], defers := [] }) ?assign ?body ?done ?stop
  case assign =>
    intro l x W K hK
    gi_wp2
    exact hK
  case body =>
    intro l pre x W _ hlt
    exact absurd hlt (by simp [cnt])
  case done =>
    intro D ys' W hD _ hI hK
    gi_wp2
    have hu := upd_putObj hI D _ (.deferred none) (by simp at hD; omega) hK
    refine ⟨by simp, .inl ⟨_, _, rfl, run_takeDeferred hK, ?_⟩⟩
    exact ⟨_, results_none rfl _ _ _, ⟨_, rfl⟩, HR1.out.upd hu (fun _ h => h.elim) (fun h => h), HU1.out.trans (hu.mono fun _ h => h.elim)⟩
  case stop =>
    intro D c pre W _ _ h _
    exact h.elim
def ptrs (mB : Nat) (offs : List Nat) : Array Value := (offs.map fun o => Value.pointer (some ⟨mB, o, none⟩)).toArray
def setAll (cs : Array Value) : List (Nat × Int) → Array Value
  | [] => cs
  | (o, v) :: r => setAll (cs.setIfInBounds o (.int .i64 v)) r
theorem setAll_snoc (cs : Array Value) (l : List (Nat × Int)) (o : Nat) (v : Int) : setAll cs (l ++ [(o, v)]) = (setAll cs l).setIfInBounds o (.int .i64 v) := by
  induction l generalizing cs with
  | nil => rfl
  | cons p l ih => exact ih _
theorem setAll_size (cs : Array Value) (l : List (Nat × Int)) : (setAll cs l).size = cs.size := by
  induction l generalizing cs with
  | nil => rfl
  | cons p l ih => rw [setAll, ih]; simp
/-- What numbers has set when the pieces 'pre' have come. -/
def numsV (offs : List Nat) (ps : List Int) (pre : List Nat) : List (Nat × Int) := offs.zip (pre.map (pcn ps 4))
theorem numsV_snoc (offs : List Nat) (ps : List Int) (pre : List Nat) (x o : Nat) (h : offs[pre.length]? = some o) : numsV offs ps (pre ++ [x]) = numsV offs ps pre ++ [(o, pcn ps 4 x)] := by
  unfold numsV
  rw [List.map_append]
  induction pre generalizing offs with
  | nil => cases offs with
    | nil => simp at h
    | cons a r => simp at h; subst h; simp
  | cons p pre ih => cases offs with
    | nil => simp at h
    | cons a r => simp at h; simpa using ih r h
end Go.Proofs.Ytgcmbleinobneaa.Ip
