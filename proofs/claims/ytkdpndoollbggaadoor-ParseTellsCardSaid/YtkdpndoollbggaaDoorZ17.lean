/- DERIVED. HeldTail in one text. By an AI agent. -/
import Derived.Deep.RegionHeld
/- DERIVED. Of no program: a region that draws its order, whose loads read what its last stores turn: each store waits for every such load, so a condition on the world need hold only till the first store. After the guide's theorem on a region under a condition that is held to its end. By an AI agent. -/
namespace Go.Proofs.YtkdpndoollbggaaDoor.HT
open Go
variable {P : Program} {ops : Array Oper} {Q : Exit → Act → World → Prop} {md : Region.Mode} {Z S : World → Prop} {st : List Nat}
/-- No store has come up yet. -/
def none_ (st : List Nat) (listed : Array Bool) : Prop := ∀ s ∈ st, listed.getD s true = false
/-- Whatever order is picked from here on; behind every operation Z holds, and till the first store S. -/
def anyT (P : Program) (md : Region.Mode) (ops : Array Oper) (Q : Exit → Act → World → Prop) (Z S : World → Prop) (st : List Nat) : Nat → Array Bool → Act → World → Prop
  | 0, listed, a, w => Region.ready md ops listed = [] ∧ Q .normal a w
  | f + 1, listed, a, w => (Region.ready md ops listed = [] → Q .normal a w) ∧
    ∀ i ∈ Region.ready md ops listed, wpOp P ops Q i (fun a' w' => (Z w' ∧ (none_ st (listed.setIfInBounds i true) → S w')) ∧ anyT P md ops Q Z S st f (listed.setIfInBounds i true) a' w') a w
theorem any_of : ∀ (f : Nat) (listed : Array Bool) (a : Act) (w : World), anyT P md ops Q Z S st f listed a w → wpAny P md ops Q f listed a w
  | 0, _, _, _, h => h
  | f + 1, _, _, _, h => ⟨h.1, fun i hi => wpOp_mono (fun a' w' h' => any_of f _ a' w' h'.2) (h.2 i hi)⟩
/-- Each store waits for the operation i. -/
def waitB (md : Region.Mode) (ops : Array Oper) (st : List Nat) (i : Nat) : Bool := st.all fun s => ((ops[s]?).map (·.after.any fun e => Region.binds md e && e.on == i)).getD false
theorem wait_no {i s : Nat} (hw : waitB md ops st i = true) (hs : s ∈ st) {listed : Array Bool} (hi : listed.getD i true = false) : s ∉ Region.ready md ops listed := fun hr => by
  have h1 := List.all_eq_true.1 hw s hs
  obtain ⟨_, o, ho, hall⟩ := mem_ready.1 hr
  rw [ho] at h1
  simp only [Option.map_some, Option.getD_some] at h1
  obtain ⟨e, he, hb⟩ := Array.any_eq_true'.1 h1
  simp only [Bool.and_eq_true, beq_iff_eq] at hb
  have h2 := hall e he hb.1
  rw [hb.2] at h2
  rcases Nat.lt_or_ge i listed.size with h' | h'
  · simp [h'] at h2 hi; rw [hi] at h2; cases h2
  · simp [Array.getElem?_eq_none h'] at h2
theorem none_set {j : Nat} {listed : Array Bool} (h : none_ st listed) (hj : j ∉ st) : none_ st (listed.setIfInBounds j true) := fun s hs => by
  have h1 := h s hs
  have : s ≠ j := fun e => hj (e ▸ hs)
  rw [Array.getD_eq_getD_getElem?] at h1 ⊢
  rw [Array.getElem?_setIfInBounds_ne (Ne.symm this)]
  exact h1
/-- A load may be taken first that every store waits for. -/
theorem first {i : Nat} {oi : Oper} {v : Value} (hi : ops[i]? = some oi) (hsel : ∀ (j : Nat) (o : Oper) cs b, ops[j]? = some o → o.op ≠ .select cs b)
    (hQ : ∀ c a w, Q (.panic c) (a.put oi.dst v) w → Q (.panic c) a w) (hw : waitB md ops st i = true) (hist : i ∉ st) :
    ∀ (f : Nat) (listed : Array Bool) (a : Act) (w : World),
      (∀ j oj, ops[j]? = some oj → j ≠ i → listed.getD j true = false → (∀ e ∈ oj.after, Region.binds md e = true → e.on ≠ i) → oi.apart ops oj = true) →
      i ∈ Region.ready md ops listed → none_ st listed → YieldsIf P ops S oi v a → Z w → S w →
      anyT P md ops Q Z S st f (listed.setIfInBounds i true) (a.put oi.dst v) w → anyT P md ops Q Z S st (f + 1) listed a w := by
  intro f
  induction f with
  | zero =>
    intro listed a w _ hr _ hy hZ hS H
    refine ⟨fun h => (by rw [h] at hr; cases hr), fun j hj => ?_⟩
    by_cases hji : j = i
    · subst hji; exact hy.wpOp hi hS ⟨⟨hZ, fun _ => hS⟩, H⟩
    · have := ready_mono hj hji
      rw [H.1] at this
      cases this
  | succ f ih =>
    intro listed a w hfree hr hn hy hZ hS H
    refine ⟨fun h => (by rw [h] at hr; cases hr), fun j hj => ?_⟩
    by_cases hji : j = i
    · subst hji; exact hy.wpOp hi hS ⟨⟨hZ, fun _ => hS⟩, H⟩
    · have h1 := H.2 j (ready_mono hj hji)
      obtain ⟨hjun, oj, hoj, hall⟩ := mem_ready.1 hj
      have hiun := (mem_ready.1 hr).1
      have hnot : ∀ e ∈ oj.after, Region.binds md e = true → e.on ≠ i := fun e he hb heq => by
        have h1 := hall e he hb
        rw [heq] at h1
        rcases Nat.lt_or_ge i listed.size with h' | h'
        · simp [h'] at hiun h1; rw [hiun] at h1; cases h1
        · simp [Array.getElem?_eq_none h'] at h1
      have hjst : j ∉ st := fun h => wait_no hw h hiun hj
      have h2 := wpOp_putIf hoj (hfree j oj hoj hji hjun hnot) (fun cs b => hsel i oi cs b hi) (fun cs b => hsel j oj cs b hoj) hQ hy h1
      have hnj := none_set hn hjst
      refine wpOp_mono (fun a' w' h3 => ?_) h2
      have hS' : S w' := h3.2.1.2 (none_set (none_set hn hist) hjst)
      refine ⟨⟨h3.2.1.1, fun _ => hS'⟩, ih (listed.setIfInBounds j true) a' w' (fun k ok hk hki hun hno => hfree k ok hk hki ?_ hno) (ready_mono hr (Ne.symm hji)) hnj h3.1 h3.2.1.1 hS' ?_⟩
      · by_cases hjk : j = k
        · subst hjk; exact hjun
        · rw [Array.getD_eq_getD_getElem?, Array.getElem?_setIfInBounds_ne hjk, ← Array.getD_eq_getD_getElem?] at hun; exact hun
      · rw [Array.setIfInBounds_comm _ _ hji]; exact h3.2.2
/-- What yields wherever Z holds may be taken first. -/
theorem firstP {i : Nat} {oi : Oper} {v : Value} (hi : ops[i]? = some oi) (hsel : ∀ (j : Nat) (o : Oper) cs b, ops[j]? = some o → o.op ≠ .select cs b)
    (hQ : ∀ c a w, Q (.panic c) (a.put oi.dst v) w → Q (.panic c) a w) (hist : i ∉ st) :
    ∀ (f : Nat) (listed : Array Bool) (a : Act) (w : World),
      (∀ j oj, ops[j]? = some oj → j ≠ i → listed.getD j true = false → (∀ e ∈ oj.after, Region.binds md e = true → e.on ≠ i) → oi.apart ops oj = true) →
      i ∈ Region.ready md ops listed → Z w → (none_ st listed → S w) → YieldsIf P ops Z oi v a →
      anyT P md ops Q Z S st f (listed.setIfInBounds i true) (a.put oi.dst v) w → anyT P md ops Q Z S st (f + 1) listed a w := by
  intro f
  induction f with
  | zero =>
    intro listed a w _ hr hZ hS hy H
    refine ⟨fun h => (by rw [h] at hr; cases hr), fun j hj => ?_⟩
    by_cases hji : j = i
    · subst hji
      refine hy.wpOp hi hZ ⟨⟨hZ, fun hx => hS fun s hs => ?_⟩, H⟩
      have := hx s hs
      rw [Array.getD_eq_getD_getElem?, Array.getElem?_setIfInBounds_ne (by rintro rfl; exact hist hs), ← Array.getD_eq_getD_getElem?] at this; exact this
    · have := ready_mono hj hji
      rw [H.1] at this
      cases this
  | succ f ih =>
    intro listed a w hfree hr hZ hS hy H
    refine ⟨fun h => (by rw [h] at hr; cases hr), fun j hj => ?_⟩
    by_cases hji : j = i
    · subst hji
      refine hy.wpOp hi hZ ⟨⟨hZ, fun hx => hS fun s hs => ?_⟩, H⟩
      have := hx s hs
      rw [Array.getD_eq_getD_getElem?, Array.getElem?_setIfInBounds_ne (by rintro rfl; exact hist hs), ← Array.getD_eq_getD_getElem?] at this; exact this
    · have h1 := H.2 j (ready_mono hj hji)
      obtain ⟨hjun, oj, hoj, hall⟩ := mem_ready.1 hj
      have hiun := (mem_ready.1 hr).1
      have hnot : ∀ e ∈ oj.after, Region.binds md e = true → e.on ≠ i := fun e he hb heq => by
        have h1 := hall e he hb
        rw [heq] at h1
        rcases Nat.lt_or_ge i listed.size with h' | h'
        · simp [h'] at hiun h1; rw [hiun] at h1; cases h1
        · simp [Array.getElem?_eq_none h'] at h1
      have h2 := wpOp_putIf hoj (hfree j oj hoj hji hjun hnot) (fun cs b => hsel i oi cs b hi) (fun cs b => hsel j oj cs b hoj) hQ hy h1
      refine wpOp_mono (fun a' w' h3 => ?_) h2
      have hS' : none_ st (listed.setIfInBounds j true) → S w' := fun hx => h3.2.1.2 (by rw [Array.setIfInBounds_comm _ _ (Ne.symm hji)]; exact none_set hx hist)
      refine ⟨⟨h3.2.1.1, hS'⟩, ih (listed.setIfInBounds j true) a' w' (fun k ok hk hki hun hno => hfree k ok hk hki ?_ hno) (ready_mono hr (Ne.symm hji)) h3.2.1.1 hS' h3.1 ?_⟩
      · by_cases hjk : j = k
        · subst hjk; exact hjun
        · rw [Array.getD_eq_getD_getElem?, Array.getElem?_setIfInBounds_ne hjk, ← Array.getD_eq_getD_getElem?] at hun; exact hun
      · rw [Array.setIfInBounds_comm _ _ hji]; exact h3.2.2
def noneB (st : List Nat) (listed : Array Bool) : Bool := st.all fun s => !listed.getD s true
theorem none_of {listed : Array Bool} (h : noneB st listed = true) : none_ st listed := fun s hs => by simpa using List.all_eq_true.1 h s hs
theorem take {i : Nat} {oi : Oper} {v : Value} {f : Nat} {listed : Array Bool} {a : Act} {w : World} (hi : ops[i]? = some oi)
    (hs : Region.noSelect ops = true) (hf : Region.free md ops listed i = true) (hr : (Region.ready md ops listed).contains i = true) (hw : waitB md ops st i = true) (hn : noneB st listed = true) (hist : st.contains i = false)
    (hQ : ∀ c a w, Q (.panic c) (a.put oi.dst v) w → Q (.panic c) a w) (hy : YieldsIf P ops S oi v a) (hZ : Z w) (hS : S w)
    (h : anyT P md ops Q Z S st f (listed.setIfInBounds i true) (a.put oi.dst v) w) : anyT P md ops Q Z S st (f + 1) listed a w :=
  first hi (Region.noSelect_spec hs) hQ hw (by simpa using hist) f listed a w (Region.free_spec hi hf) (by simpa using hr) (none_of hn) hy hZ hS h
theorem takeP {i : Nat} {oi : Oper} {v : Value} {f : Nat} {listed : Array Bool} {a : Act} {w : World} (hi : ops[i]? = some oi)
    (hs : Region.noSelect ops = true) (hf : Region.free md ops listed i = true) (hr : (Region.ready md ops listed).contains i = true) (hist : st.contains i = false)
    (hQ : ∀ c a w, Q (.panic c) (a.put oi.dst v) w → Q (.panic c) a w) (hy : YieldsIf P ops Z oi v a) (hZ : Z w) (hS : none_ st listed → S w)
    (h : anyT P md ops Q Z S st f (listed.setIfInBounds i true) (a.put oi.dst v) w) : anyT P md ops Q Z S st (f + 1) listed a w :=
  firstP hi (Region.noSelect_spec hs) hQ (by simpa using hist) f listed a w (Region.free_spec hi hf) (by simpa using hr) hZ hS hy h
theorem takeS {i : Nat} {oi : Oper} {v : Value} {f : Nat} {listed : Array Bool} {a : Act} {w : World} (hi : ops[i]? = some oi)
    (hs : Region.noSelect ops = true) (hf : Region.free md ops listed i = true) (hr : (Region.ready md ops listed).contains i = true) (hist : st.contains i = false) (hn : noneB st listed = false)
    (hQ : ∀ c a w, Q (.panic c) (a.put oi.dst v) w → Q (.panic c) a w) (hy : YieldsIf P ops Z oi v a) (hZ : Z w)
    (h : anyT P md ops Q Z S st f (listed.setIfInBounds i true) (a.put oi.dst v) w) : anyT P md ops Q Z S st (f + 1) listed a w :=
  takeP hi hs hf hr hist hQ hy hZ (fun hx => by
    have : noneB st listed = true := List.all_eq_true.2 fun s hs => by simpa using hx s hs
    rw [this] at hn; cases hn) h
/-- One operation alone may come up: no store, S is shown anew. -/
theorem one {i : Nat} {o : Oper} {f : Nat} {listed : Array Bool} {a : Act} {w : World} (hr : Region.ready md ops listed = [i]) (ho : ops[i]? = some o)
    (h : ∀ K : Act → World → Prop, Shut (∀ a' w', Z w' → S w' → anyT P md ops Q Z S st f (listed.setIfInBounds i true) a' w' → K a' w') → if Region.wanted o (yielded ops a.tmps) = true then Oper.wp P o a w K Q else K (a.put o.dst undef) w) : anyT P md ops Q Z S st (f + 1) listed a w :=
  ⟨fun h0 => by rw [hr] at h0; (cases h0), fun j hj => by
    rw [hr] at hj
    obtain rfl := List.mem_singleton.1 hj
    exact wpOp_step ho fun K hK => h K fun a' w' hZ hS hW => hK a' w' ⟨⟨hZ, fun _ => hS⟩, hW⟩⟩
/-- A store: S is let go. -/
theorem oneS {i : Nat} {o : Oper} {f : Nat} {listed : Array Bool} {a : Act} {w : World} (hr : Region.ready md ops listed = [i]) (hist : noneB st (listed.setIfInBounds i true) = false) (ho : ops[i]? = some o)
    (h : ∀ K : Act → World → Prop, Shut (∀ a' w', Z w' → anyT P md ops Q Z S st f (listed.setIfInBounds i true) a' w' → K a' w') → if Region.wanted o (yielded ops a.tmps) = true then Oper.wp P o a w K Q else K (a.put o.dst undef) w) : anyT P md ops Q Z S st (f + 1) listed a w :=
  ⟨fun h0 => by rw [hr] at h0; (cases h0), fun j hj => by
    rw [hr] at hj
    obtain rfl := List.mem_singleton.1 hj
    refine wpOp_step ho fun K hK => h K fun a' w' hZ hW => hK a' w' ⟨⟨hZ, fun hx => ?_⟩, hW⟩
    have : noneB st (listed.setIfInBounds j true) = true := List.all_eq_true.2 fun s hs => by simpa using hx s hs
    rw [this] at hist; cases hist⟩
theorem done {f : Nat} {listed : Array Bool} {a : Act} {w : World} (hr : Region.ready md ops listed = []) (h : Q .normal a w) : anyT P md ops Q Z S st f listed a w := by
  cases f with
  | zero => exact ⟨hr, h⟩
  | succ f => exact ⟨fun _ => h, fun i hi => by rw [hr] at hi; cases hi⟩
theorem wp_region {id : Nat} {a : Act} {w : World} (hm : P.follows .mixedOrders = true) (h : anyT P .any ops Q Z S st ops.size (Array.replicate ops.size false) a w.drew) : (Code.region id ops true).wp P Q a w :=
  wp_region_any hm (any_of _ _ _ _ h)
end Go.Proofs.YtkdpndoollbggaaDoor.HT
