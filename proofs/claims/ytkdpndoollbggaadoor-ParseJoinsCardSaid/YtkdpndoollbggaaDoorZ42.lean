/- DERIVED. PaCo in one text. By an AI agent. -/
import Derived.Test.YtkdpndoollbggaaDoorZ41
/- DERIVED. The contract of package parse's Count. By an AI agent. -/
namespace Go.Proofs.YtkdpndoollbggaaDoor.Pa
open Go Go.ChangeShapes Go.WideShapes Go.ChangeAt Go.RowKit Lx Args
set_option linter.unusedVariables false
set_option linter.unusedSimpArgs false
mutual
/-- How many nodes a tree is. -/
def cntT : Tr → Nat
  | .mk _ _ _ _ _ l => 1 + cntL l
def cntL : List Tr → Nat
  | [] => 0
  | x :: l => cntT x + cntL l
end
theorem cnt_app : ∀ (a b : List Tr), cntL (a ++ b) = cntL a + cntL b
  | [], b => by simp [cntL]
  | x :: a, b => by show cntT x + cntL (a ++ b) = cntT x + cntL a + cntL b; rw [cnt_app a b]; omega
theorem cnt_take {l : List Tr} {i : Nat} {y : Tr} (h : l[i]? = some y) : cntL (l.take (i + 1)) = cntL (l.take i) + cntT y := by
  rw [List.take_add_one, h]
  show cntL (l.take i ++ [y]) = _
  rw [cnt_app]
  show _ + (cntT y + 0) = _
  omega
theorem cnt_take_le (l : List Tr) (i : Nat) : cntL (l.take i) ≤ cntL l := by
  have := cnt_app (l.take i) (l.drop i)
  rw [List.take_append_drop] at this
  omega
theorem size_mem {x : Tr} {k a n : Nat} {s : Bs} {ps : List Bs} {l : List Tr} {i : Nat} (h : l[i]? = some x) : SizeOf.sizeOf x < SizeOf.sizeOf (Tr.mk k a s n ps l) := by
  have h1 := List.sizeOf_lt_of_mem (List.mem_of_getElem? h)
  simp only [Tr.mk.sizeOf_spec]
  omega
/-- The six cells of the i-th part, behind an address. -/
theorem part_at {N : Nat → Prop} {w : World} {l : List Tr} {css : List (List Value)} {A : Option Addr} (hL : Lies w A css.flatten) (hT : TsIn N w l css) {i : Nat} {y : Tr} (h : l[i]? = some y) :
    ∃ b o k a s n A' la cA B lb cB, A = some ⟨b, o, none⟩ ∧ TIn N w y (ndC k a s n A' la cA B lb cB) ∧ b < w.heap.size ∧ w.cell? ⟨b, o + i * 6, none⟩ = some (.int .i64 (k : Int)) ∧ w.cell? ⟨b, o + i * 6 + 1, none⟩ = some (.string ⟨s.toArray⟩) ∧
      w.cell? ⟨b, o + i * 6 + 2, none⟩ = some (.int .u32 (n : Int)) ∧ w.cell? ⟨b, o + i * 6 + 3, none⟩ = some (.int .i64 (a : Int)) ∧ w.cell? ⟨b, o + i * 6 + 4, none⟩ = some (.slice A' la cA) ∧ w.cell? ⟨b, o + i * 6 + 5, none⟩ = some (.slice B lb cB) := by
  obtain ⟨c, h1, h2⟩ := tsIn_at hT i y h
  obtain ⟨k, a, s, n, A', la, cA, B, lb, cB, rfl⟩ := tIn_cells h1
  have g0 := h2 0 (by omega); have g1 := h2 1 (by omega); have g2 := h2 2 (by omega); have g3 := h2 3 (by omega); have g4 := h2 4 (by omega); have g5 := h2 5 (by omega)
  obtain ⟨b, o, rfl, hb, hc⟩ := hL.at_ (j := i * 6 + 0) (g0.trans rfl)
  refine ⟨b, o, k, a, s, n, A', la, cA, B, lb, cB, rfl, h1, hb, hc _ _ (g0.trans rfl), ?_, ?_, ?_, ?_, ?_⟩
  · rw [Nat.add_assoc]; exact hc _ _ (g1.trans rfl)
  · rw [Nat.add_assoc]; exact hc _ _ (g2.trans rfl)
  · rw [Nat.add_assoc]; exact hc _ _ (g3.trans rfl)
  · rw [Nat.add_assoc]; exact hc _ _ (g4.trans rfl)
  · rw [Nat.add_assoc]; exact hc _ _ (g5.trans rfl)
/-- What lies behind a node's cells. -/
theorem tIn_parts {N : Nat → Prop} {w : World} {k1 a1 n1 : Nat} {s1 : Bs} {ps : List Bs} {l : List Tr} {k a s n A la cA B lb cB} (h : TIn N w (.mk k1 a1 s1 n1 ps l) (ndC k a s n A la cA B lb cB)) :
    k = k1 ∧ s = s1 ∧ n = n1 ∧ a = a1 ∧ la = l.length ∧ lb = ps.length ∧ l.length ≤ 100000 ∧ ps.length ≤ 100000 ∧ Lies w B (ps.map strV) ∧ ∃ css, Lies w A css.flatten ∧ TsIn N w l css := by
  unfold TIn at h
  obtain ⟨A1, cA1, B1, cB1, h1, h2, h3, h4, h5, css, h6, h7, h8⟩ := h
  unfold ndC at h1
  simp only [List.cons.injEq, Value.int.injEq, Value.slice.injEq, Value.string.injEq, true_and, and_true] at h1
  obtain ⟨e1, e2, e3, e4, ⟨rfl, rfl, rfl⟩, rfl, rfl, rfl⟩ := h1
  refine ⟨Int.ofNat.inj e1, ?_, Int.ofNat.inj e3, Int.ofNat.inj e4, rfl, rfl, h2, h3, h4, css, h6, h8⟩
  have := congrArg (fun b : ByteArray => b.data.toList) e2
  simpa using this
set_option maxRecDepth 100000 in
set_option maxHeartbeats 4000000 in
theorem count : ∀ (m : Nat) (x : Tr), SizeOf.sizeOf x < m → cntT x ≤ 1000000000 → ∀ (N : Nat → Prop) (w : World) (k a : Nat) (s : Bs) (n : Nat) (A : Option Addr) (la cA : Nat) (B : Option Addr) (lb cB : Nat), TIn N w x (ndC k a s n A la cA B lb cB) →
    Calls Tryd.prog 19 #[.agg #[.int .i64 (k : Int), .string ⟨s.toArray⟩, .int .u32 (n : Int), .int .i64 (a : Int), .slice A la cA, .slice B lb cB]] w fun e w' => e = .returned (.int .i64 (cntT x : Int)) ∧ Below w.heap.size w w'
  | 0, x, h, _ => absurd h (Nat.not_lt_zero _)
  | m + 1, .mk k1 a1 s1 n1 ps l, hm, hc => fun N w k a s n A la cA B lb cB hT => by
    obtain ⟨rfl, rfl, rfl, rfl, rfl, rfl, hl, hp, hB, css, hL, hS⟩ := tIn_parts hT
    have hcl : cntT (.mk k a s n ps l) = 1 + cntL l := by simp [cntT]
    rw [hcl] at hc ⊢
    have HL := Lib.hid hL; have HS := Lib.hid hS; have HM := Lib.hid hm
    have IH := Lib.hid (count m)
    clear hT hB hL hS hcl hm
    go_enter Tryd.func19, Tryd.ntmps19
    go_wp2_with fail
    go_loopw [3, 5, 9] (fun vs vb vi wr => ∃ i c0 : Nat, i ≤ l.length ∧ vs = .int .i64 (c0 : Int) ∧ vi = .int .i64 (i : Int) ∧ Hid (Below w.heap.size w wr ∧ c0 = 1 + cntL (l.take i))) (fun _ _ vi _ => l.length - (intOf vi).toNat)
    case atStart => exact ⟨0, 1, by omega, rfl, rfl, Lib.hid ⟨(Below.refl _ _).alloc (Nat.le_refl _) _, rfl⟩⟩
    case round =>
      obtain ⟨i, c0, hi, rfl, rfl, HH0⟩ := hrel
      have HH := Lib.hid HH0.out.1
      have HC0 := Lib.hid HH0.out.2
      clear HH0
      by_cases hlt : i < l.length
      · obtain ⟨y, hy⟩ : ∃ y, l[i]? = some y := ⟨_, List.getElem?_eq_getElem hlt⟩
        have hu : Upd (fun _ => False) w wr := (Upd.of_below HH.out _)
        obtain ⟨b, o, k', a', s', n', A', la', cA', B', lb', cB', rfl, hTy, hb, e0, e1, e2, e3, e4, e5⟩ := part_at (HL.out.below HH.out) (HS.out.upd hu fun _ _ h => h) hy
        have hct := cnt_take hy
        have hcle := cnt_take_le l (i + 1)
        have hcy : cntT y ≤ 1000000000 := by omega
        have hcb : c0 + cntT y ≤ 1000000000 := by have := HC0.out; omega
        have hsy : SizeOf.sizeOf y < m := by have := size_mem (k := k) (a := a) (n := n) (s := s) (ps := ps) hy; have := HM.out; omega
        obtain ⟨w1, hw1⟩ : ∃ w1, wr.alloc (.cells #[.int .i64 (k' : Int), .string ⟨s'.toArray⟩, .int .u32 (n' : Int), .int .i64 (a' : Int), .slice A' la' cA', .slice B' lb' cB'] 27) = w1 := ⟨_, rfl⟩
        have hb1 : Below wr.heap.size wr w1 := by rw [← hw1]; exact (Below.refl _ _).alloc (Nat.le_refl _) _
        have HC := Lib.hid (IH.out y hsy hcy N w1 k' a' s' n' A' la' cA' B' lb' cB' (hTy.upd (Upd.of_below hb1 fun _ => False) fun _ _ h => h))
        have HW1 := Lib.hid hw1; have HB1 := Lib.hid (HH.out.trans (hb1.mono HH.out.size)); have HCT := Lib.hid hct
        clear hu hTy hw1 hb1 hct hy hcle hc
        obtain ⟨d0, hd0⟩ : ∃ d0, cntT y = d0 := ⟨_, rfl⟩
        rw [hd0] at HC hcb HCT
        clear hd0 hcy
        go_wp2_with fail
        rw [HW1.out]
        refine HC.out.mono ?_
        rintro e w2 ⟨rfl, hb2⟩
        have HB2 := Lib.hid (HB1.out.trans (hb2.mono HB1.out.size))
        clear hb2
        go_wp2_with fail
        go_roundw
        case rel => exact ⟨i + 1, c0 + d0, by omega, by push_cast; rfl, by push_cast; rfl, Lib.hid ⟨HB2.out, by rw [HCT.out, HC0.out]; omega⟩⟩
        case measure => simp [intOf]; omega
      · obtain rfl : i = l.length := by omega
        have hc0 := HC0.out
        rw [List.take_length] at hc0
        go_wp2_with fail
        go_ret
        exact ⟨by rw [hc0]; rfl, HH.out⟩
end Go.Proofs.YtkdpndoollbggaaDoor.Pa
