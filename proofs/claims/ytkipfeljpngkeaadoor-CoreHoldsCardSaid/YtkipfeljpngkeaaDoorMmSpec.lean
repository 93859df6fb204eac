/- DERIVED. Memory's plain answers, and a memory as it lies. By an AI agent. -/
import Derived.Test.YtkipfeljpngkeaaDoorUpd
namespace Go.Proofs.YtkipfeljpngkeaaDoor.Mm
open Go.ChangeShapes Go.WideShapes Go.ChangeAt Go.RowKit Args
set_option linter.unusedVariables false
/-- What a memory holds: code, words, tape, how many were drawn, what is on the bus. -/
structure St where
  C : List Int
  W : List Int
  T : List Int
  d : Nat
  b : Int
/-- How far an address lies behind another one, going round. -/
def far (a f : Int) : Int := (a - f) % 4294967296
theorem far_lo (a f : Int) : 0 ≤ far a f := by unfold far; omega
theorem far_hi (a f : Int) : far a f < 4294967296 := by unfold far; omega
theorem far_ge {a f : Int} (h0 : f ≤ a) (h1 : a < 4294967296) (h2 : 0 ≤ f) : far a f = a - f := by unfold far; omega
theorem far_lt {a f : Int} (h0 : a < f) (h1 : 0 ≤ a) (h2 : f < 4294967296) : far a f = a - f + 4294967296 := by unfold far; omega
def plcB (a f s : Int) (n : Nat) : Bool := decide (far a f % s = 0) && decide (far a f / s < n)
def plcV (a f s : Int) (n : Nat) : Value := if plcB a f s n then .tuple #[.int .i64 (far a f / s), .bool true] else .tuple #[.int .i64 0, .bool false]
def lookV (s : St) (a : Int) : Int × Int :=
  if a = 1073741824 then (if s.d < s.T.length then (s.T.getD s.d 0, 0) else (0, 51))
  else if plcB a 536870912 4 s.W.length then (s.W.getD (far a 536870912 / 4).toNat 0, 0)
  else if plcB a 0 4 (s.C.length / 2) then (s.C.getD (2 * (far a 0 / 4).toNat) 0 + 65536 * s.C.getD (2 * (far a 0 / 4).toNat + 1) 0, 0)
  else (0, 50)
def loadS (s : St) (a : Int) : St := if (lookV s a).2 = 0 then { s with d := if a = 1073741824 then s.d + 1 else s.d, b := (lookV s a).1 } else s
def storeE (s : St) (a : Int) : Int := if plcB a 536870912 4 s.W.length then 0 else 50
def storeS (s : St) (a u : Int) : St := if plcB a 536870912 4 s.W.length then { s with W := s.W.set (far a 536870912 / 4).toNat u, b := u } else s
def fetchV (s : St) (a : Int) : Int × Int := if plcB a 0 2 s.C.length then (s.C.getD (far a 0 / 2).toNat 0, 0) else (0, 50)
def setS (s : St) (i u : Int) : St := if 0 ≤ i ∧ i < s.W.length then { s with W := s.W.set i.toNat u } else s
/-- What its numbers may be. -/
structure Fit (s : St) : Prop where
  c : ∀ z ∈ s.C, 0 ≤ z ∧ z < 65536
  w : ∀ z ∈ s.W, 0 ≤ z ∧ z < 4294967296
  t : ∀ z ∈ s.T, 0 ≤ z ∧ z < 4294967296
  d : s.d ≤ s.T.length
  b : 0 ≤ s.b ∧ s.b < 4294967296
  cl : s.C.length ≤ 60000
  wl : s.W.length ≤ 16000
  tl : s.T.length ≤ 140737488351232
theorem getD_in {l : List Int} {P : Int → Prop} (h : ∀ z ∈ l, P z) {i : Nat} (hi : i < l.length) : P (l.getD i 0) := by
  rw [List.getD_eq_getElem?_getD, List.getElem?_eq_getElem hi]
  exact h _ (List.getElem_mem hi)
theorem Fit.look {s : St} (h : Fit s) (a : Int) : 0 ≤ (lookV s a).1 ∧ (lookV s a).1 < 4294967296 := by
  unfold lookV
  split
  · split
    · next h1 => exact getD_in h.t h1
    · decide
  · split
    · next h1 =>
      unfold plcB at h1
      simp only [Bool.and_eq_true, decide_eq_true_eq] at h1
      have := far_lo a 536870912
      exact getD_in h.w (by omega)
    · split
      · next h1 =>
        unfold plcB at h1
        simp only [Bool.and_eq_true, decide_eq_true_eq] at h1
        have := far_lo a 0
        have a1 := getD_in h.c (i := 2 * (far a 0 / 4).toNat) (by omega)
        have a2 := getD_in h.c (i := 2 * (far a 0 / 4).toNat + 1) (by omega)
        show 0 ≤ _ + _ ∧ _ + _ < (4294967296 : Int)
        omega
      · decide
theorem look_port {s : St} {a : Int} (h : (lookV s a).2 = 0) (ha : a = 1073741824) : s.d < s.T.length := by
  unfold lookV at h
  rw [if_pos ha] at h
  split at h
  · assumption
  · simp at h
theorem Fit.loadS {s : St} (h : Fit s) (a : Int) : Fit (loadS s a) := by
  unfold Mm.loadS
  split
  · next h1 =>
    refine ⟨h.c, h.w, h.t, ?_, h.look a, h.cl, h.wl, h.tl⟩
    show (if a = 1073741824 then s.d + 1 else s.d) ≤ s.T.length
    split
    · next h2 => exact look_port h1 h2
    · exact h.d
  · exact h
theorem set_in {l : List Int} {P : Int → Prop} (h : ∀ z ∈ l, P z) {i : Nat} {u : Int} (hu : P u) : ∀ z ∈ l.set i u, P z := fun z hz => by
  rcases List.mem_or_eq_of_mem_set hz with h1 | rfl
  · exact h z h1
  · exact hu
theorem Fit.storeS {s : St} (h : Fit s) (a : Int) {u : Int} (hu : 0 ≤ u ∧ u < 4294967296) : Fit (storeS s a u) := by
  unfold Mm.storeS
  split
  · exact ⟨h.c, set_in h.w hu, h.t, h.d, hu, h.cl, by simpa using h.wl, h.tl⟩
  · exact h
theorem Fit.setS {s : St} (h : Fit s) (i : Int) {u : Int} (hu : 0 ≤ u ∧ u < 4294967296) : Fit (setS s i u) := by
  unfold Mm.setS
  split
  · exact ⟨h.c, set_in h.w hu, h.t, h.d, h.b, h.cl, by simpa using h.wl, h.tl⟩
  · exact h
theorem loadS_len (s : St) (a : Int) : (loadS s a).C = s.C ∧ (loadS s a).W = s.W ∧ (loadS s a).T = s.T := by
  unfold loadS; split <;> exact ⟨rfl, rfl, rfl⟩
theorem storeS_len (s : St) (a u : Int) : (storeS s a u).C = s.C ∧ (storeS s a u).W.length = s.W.length ∧ (storeS s a u).T = s.T := by
  unfold storeS; split
  · exact ⟨rfl, by simp, rfl⟩
  · exact ⟨rfl, rfl, rfl⟩
theorem setS_len (s : St) (i u : Int) : (setS s i u).C = s.C ∧ (setS s i u).W.length = s.W.length ∧ (setS s i u).T = s.T := by
  unfold setS; split
  · exact ⟨rfl, by simp, rfl⟩
  · exact ⟨rfl, rfl, rfl⟩
/-- Where a memory lies: its block, its three slices. -/
structure Hd where
  r : Nat
  AC : Option Addr
  cC : Nat
  AW : Option Addr
  cW : Nat
  AT : Option Addr
  cT : Nat
def Hd.X (h : Hd) (k : Nat) : Prop := k = h.r ∨ h.AW = some ⟨k, 0, none⟩
def Hd.B (h : Hd) (k : Nat) : Prop := k = h.r ∨ h.AC = some ⟨k, 0, none⟩ ∨ h.AW = some ⟨k, 0, none⟩ ∨ h.AT = some ⟨k, 0, none⟩
structure PM (t u16 u32 : TypeId) (n0 : Nat) (h : Hd) (s : St) (w : World) : Prop where
  blk : Blk w h.r t #[.slice h.AC s.C.length h.cC, .slice h.AW s.W.length h.cW, .slice h.AT s.T.length h.cT, .int .i64 s.d, .int .u32 s.b]
  oc : w.ownsRow n0 u16 1 (.slice h.AC s.C.length h.cC) s.C.length (s.C.map (.int .u16))
  ow : w.ownsRow n0 u32 1 (.slice h.AW s.W.length h.cW) s.W.length (s.W.map (.int .u32))
  ot : w.ownsRow n0 u32 1 (.slice h.AT s.T.length h.cT) s.T.length (s.T.map (.int .u32))
  rC : h.AC ≠ some ⟨h.r, 0, none⟩
  rW : h.AW ≠ some ⟨h.r, 0, none⟩
  rT : h.AT ≠ some ⟨h.r, 0, none⟩
  cw : ∀ k, h.AW = some ⟨k, 0, none⟩ → h.AC ≠ some ⟨k, 0, none⟩ ∧ h.AT ≠ some ⟨k, 0, none⟩
  low : n0 ≤ h.r
  fit : Fit s
theorem own_form {w : World} {base : Nat} {e : TypeId} {size n c : Nat} {A : Option Addr} {xs : List Value} (h : w.ownsRow base e size (.slice A n c) n xs) : (A = none ∧ n = 0 ∧ c = 0) ∨ ∃ g, A = some ⟨g, 0, none⟩ ∧ base ≤ g ∧ g < w.heap.size := by
  rcases h.2 with ⟨e1, rfl⟩ | ⟨g, cap, cur, e1, hb, hg, _⟩
  · injection e1 with e1 e2 e3
    exact .inl ⟨e1, rfl, e3⟩
  · injection e1 with e1
    exact .inr ⟨g, e1, hb, (Array.getElem?_eq_some_iff.1 hg).1⟩
theorem own_upd {w w' : World} {X : Nat → Prop} {base : Nat} {e : TypeId} {size n c : Nat} {A : Option Addr} {xs : List Value} (h : w.ownsRow base e size (.slice A n c) n xs) (hu : Upd X w w') (hx : ∀ k, A = some ⟨k, 0, none⟩ → ¬ X k) : w'.ownsRow base e size (.slice A n c) n xs := by
  refine ⟨h.1, ?_⟩
  rcases h.2 with hn | ⟨g, cap, cur, e1, hb, hg, rest⟩
  · exact .inl hn
  · refine .inr ⟨g, cap, cur, e1, hb, ?_, rest⟩
    injection e1 with e1
    rw [hu.block g (Array.getElem?_eq_some_iff.1 hg).1 (hx g e1)]
    exact hg
section
variable {t u16 u32 : TypeId} {n0 : Nat} {h : Hd} {s : St} {w w' : World} {X : Nat → Prop}
theorem PM.upd (p : PM t u16 u32 n0 h s w) (hu : Upd X w w') (hx : ∀ k, h.B k → ¬ X k) : PM t u16 u32 n0 h s w' :=
  ⟨p.blk.upd hu (hx _ (.inl rfl)), own_upd p.oc hu fun k e => hx k (.inr (.inl e)), own_upd p.ow hu fun k e => hx k (.inr (.inr (.inl e))), own_upd p.ot hu fun k e => hx k (.inr (.inr (.inr e))), p.rC, p.rW, p.rT, p.cw, p.low, p.fit⟩
theorem PM.lt (p : PM t u16 u32 n0 h s w) {k : Nat} (hk : h.B k) : n0 ≤ k ∧ k < w.heap.size := by
  have f : ∀ {e : TypeId} {n c : Nat} {A : Option Addr} {xs : List Value}, w.ownsRow n0 e 1 (.slice A n c) n xs → A = some ⟨k, 0, none⟩ → n0 ≤ k ∧ k < w.heap.size := fun ho hA => by
    rcases own_form ho with ⟨h1, _⟩ | ⟨g, h1, h2, h3⟩
    · rw [h1] at hA; cases hA
    · rw [h1] at hA; cases hA; exact ⟨h2, h3⟩
  rcases hk with rfl | h1 | h1 | h1
  · exact ⟨p.low, p.blk.lt⟩
  · exact f p.oc h1
  · exact f p.ow h1
  · exact f p.ot h1
theorem Hd.XB {h : Hd} {k : Nat} (hk : h.X k) : h.B k := hk.elim .inl fun e => .inr (.inr (.inl e))
theorem PM.below (p : PM t u16 u32 n0 h s w) (hb : Below w.heap.size w w') : PM t u16 u32 n0 h s w' := p.upd (Upd.of_below hb fun _ => False) fun _ _ => id
theorem PM.drew (p : PM t u16 u32 n0 h s w) : PM t u16 u32 n0 h s w.drew := p.upd ((Upd.refl (fun _ => False) w).drew) fun _ _ => id
theorem PM.drewN (p : PM t u16 u32 n0 h s w) (n : Nat) : PM t u16 u32 n0 h s (w.drewN n) := p.upd ((Upd.refl (fun _ => False) w).drewN n) fun _ _ => id
theorem PM.cellC (p : PM t u16 u32 n0 h s w) {i : Nat} (hi : i < s.C.length) : ∃ g, h.AC = some ⟨g, 0, none⟩ ∧ w.cell? ⟨g, i, none⟩ = some (.int .u16 (s.C.getD i 0)) := by
  rcases own_form p.oc with ⟨_, h1, _⟩ | ⟨g, h1, _⟩
  · omega
  · refine ⟨g, h1, ?_⟩
    have ho := p.oc
    rw [h1] at ho
    rw [ho.cellAt i (by omega), List.getElem?_map, List.getElem?_eq_getElem hi]
    simp [List.getD, List.getElem?_eq_getElem hi]
theorem PM.cellW (p : PM t u16 u32 n0 h s w) {i : Nat} (hi : i < s.W.length) : ∃ g, h.AW = some ⟨g, 0, none⟩ ∧ w.cell? ⟨g, i, none⟩ = some (.int .u32 (s.W.getD i 0)) ∧ w.frozen? ⟨g, i, none⟩ = false := by
  rcases own_form p.ow with ⟨_, h1, _⟩ | ⟨g, h1, _⟩
  · omega
  · have ho := p.ow
    rw [h1] at ho
    refine ⟨g, h1, ?_, ho.frozenAt i⟩
    rw [ho.cellAt i (by omega), List.getElem?_map, List.getElem?_eq_getElem hi]
    simp [List.getD, List.getElem?_eq_getElem hi]
theorem PM.cellT (p : PM t u16 u32 n0 h s w) {i : Nat} (hi : i < s.T.length) : ∃ g, h.AT = some ⟨g, 0, none⟩ ∧ w.cell? ⟨g, i, none⟩ = some (.int .u32 (s.T.getD i 0)) := by
  rcases own_form p.ot with ⟨_, h1, _⟩ | ⟨g, h1, _⟩
  · omega
  · refine ⟨g, h1, ?_⟩
    have ho := p.ot
    rw [h1] at ho
    rw [ho.cellAt i (by omega), List.getElem?_map, List.getElem?_eq_getElem hi]
    simp [List.getD, List.getElem?_eq_getElem hi]
/-- The numbers in its block turn. -/
theorem PM.nums (p : PM t u16 u32 n0 h s w) {s' : St} (hC : s'.C = s.C) (hW : s'.W = s.W) (hT : s'.T = s.T) (hf : Fit s')
    (hb : Blk w' h.r t #[.slice h.AC s.C.length h.cC, .slice h.AW s.W.length h.cW, .slice h.AT s.T.length h.cT, .int .i64 s'.d, .int .u32 s'.b]) (hu : Upd (· = h.r) w w') : PM t u16 u32 n0 h s' w' :=
  ⟨by rw [hC, hW, hT]; exact hb, by rw [hC]; exact own_upd p.oc hu fun k e hk => p.rC (by rw [← hk]; exact e), by rw [hW]; exact own_upd p.ow hu fun k e hk => p.rW (by rw [← hk]; exact e), by rw [hT]; exact own_upd p.ot hu fun k e hk => p.rT (by rw [← hk]; exact e), p.rC, p.rW, p.rT, p.cw, p.low, hf⟩
/-- A word of memory turns. -/
theorem PM.word (p : PM t u16 u32 n0 h s w) {g : Nat} (hg : h.AW = some ⟨g, 0, none⟩) (i : Nat) (u : Int) (hu : 0 ≤ u ∧ u < 4294967296) : PM t u16 u32 n0 h { s with W := s.W.set i u } (w.setCell ⟨g, i, none⟩ (.int .u32 u)) ∧ Upd h.X w (w.setCell ⟨g, i, none⟩ (.int .u32 u)) := by
  have hup : Upd h.X w (w.setCell ⟨g, i, none⟩ (.int .u32 u)) := (Upd.refl h.X w).setCell (p := ⟨g, i, none⟩) (fun _ => .inr hg) _
  have hup1 : Upd (· = g) w (w.setCell ⟨g, i, none⟩ (.int .u32 u)) := (Upd.refl (· = g) w).setCell (p := ⟨g, i, none⟩) (fun _ => rfl) _
  have hgr : g ≠ h.r := fun e => p.rW (by rw [← e]; exact hg)
  have ho := p.ow
  rw [hg] at ho
  refine ⟨⟨?_, own_upd p.oc hup1 fun k e hk => ?_, ?_, own_upd p.ot hup1 fun k e hk => ?_, p.rC, p.rW, p.rT, p.cw, p.low, ⟨p.fit.c, set_in p.fit.w hu, p.fit.t, p.fit.d, p.fit.b, p.fit.cl, by simpa using p.fit.wl, p.fit.tl⟩⟩, hup⟩
  · show Blk _ _ _ #[_, .slice h.AW (s.W.set i u).length h.cW, _, _, _]
    rw [List.length_set]
    exact p.blk.upd hup1 fun e => hgr e.symm
  · exact (p.cw g hg).1 (by rw [← hk]; exact e)
  · show World.ownsRow _ _ _ _ (.slice h.AW (s.W.set i u).length h.cW) (s.W.set i u).length ((s.W.set i u).map (.int .u32))
    rw [List.length_set, List.map_set, hg]
    exact (ho.stored i (.int .u32 u)).1
  · exact (p.cw g hg).2 (by rw [← hk]; exact e)
end
end Go.Proofs.YtkipfeljpngkeaaDoor.Mm
