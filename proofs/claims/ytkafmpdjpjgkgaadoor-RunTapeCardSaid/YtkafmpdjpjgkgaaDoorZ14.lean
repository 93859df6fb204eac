/- DERIVED. MmNew in one text. By an AI agent. -/
import Derived.Test.YtkafmpdjpjgkgaaDoorZ13
import Derived.Deep.RegionHeld3
import Derived.Deep.AppendLies
import Derived.Lib.SliceRun
/- DERIVED. Contracts of slices.Clone at two types, of the program's New and Words. By an AI agent. -/
namespace Go.Proofs.YtkafmpdjpjgkgaaDoor.Mm
open Go.ChangeShapes Go.WideShapes Go.ChangeAt Go.RowKit Args
set_option linter.unusedVariables false
/-- New blocks alone. -/
def Ext (w w' : World) : Prop := Below w.heap.size w w'
theorem Ext.refl (w : World) : Ext w w := Below.refl _ _
theorem Ext.trans {a b c : World} (h : Ext a b) (k : Ext b c) : Ext a c := Below.trans h (Below.mono k h.size)
theorem Ext.alloc (w : World) (o : Obj) : Ext w (w.alloc o) := (Below.refl _ _).alloc (Nat.le_refl _) o
theorem Ext.drew (w : World) : Ext w w.drew := (Below.refl _ _).drew
theorem Ext.lies {w w' : World} {A : Option Addr} {xs : List Value} (h : Ext w w') (hL : Lies w A xs) : Lies w' A xs := hL.below h
theorem Ext.own {w w' : World} {base : Nat} {e : TypeId} {size n c : Nat} {A : Option Addr} {xs : List Value} (h : Ext w w') (ho : w.ownsRow base e size (.slice A n c) n xs) : w'.ownsRow base e size (.slice A n c) n xs := own_upd ho (Upd.of_below h fun _ => False) fun _ _ => id
theorem own_low {w : World} {base base' : Nat} {e : TypeId} {size n c : Nat} {A : Option Addr} {xs : List Value} (ho : w.ownsRow base e size (.slice A n c) n xs) (hb : base' ≤ base) : w.ownsRow base' e size (.slice A n c) n xs := by
  refine ⟨ho.1, ?_⟩
  rcases ho.2 with hn | ⟨g, cap, cur, e1, h1, rest⟩
  · exact .inl hn
  · exact .inr ⟨g, cap, cur, e1, by omega, rest⟩
/-- A fresh copy. -/
def OwnEnd (e : TypeId) (k : IntKind) (zs : List Int) (w : World) (en : Ending) (w' : World) : Prop :=
  ∃ A' c', en = .returned (.slice A' zs.length c') ∧ w'.ownsRow w.heap.size e 1 (.slice A' zs.length c') zs.length (zs.map (.int k)) ∧ Ext w w'
theorem info16 : (Tryd.prog.info? 37).map (fun i => (i.zero, i.size, i.bytes)) = some (some (.int .u16 0), 1, 2) := by kernel_rfl
theorem info32 : (Tryd.prog.info? 36).map (fun i => (i.zero, i.size, i.bytes)) = some (some (.int .u32 0), 1, 4) := by kernel_rfl
theorem ints_one (k : IntKind) (zs : List Int) : ∀ u ∈ zs.map (Value.int k), u.oneCell' = true := fun u hu => by
  obtain ⟨x, _, rfl⟩ := List.mem_map.1 hu
  rfl
theorem lies_nil {w : World} {k : IntKind} {zs : List Int} (h : Lies w none (zs.map (Value.int k))) : zs = [] := by
  cases zs with
  | nil => rfl
  | cons z r => obtain ⟨a, e, _⟩ := h 0 _ rfl; cases e
theorem fresh_ext {w w' : World} {o : Obj} (hg : (w.alloc o).grownBy w' (some w.heap.size)) : Ext w w' := grown_new (Below.refl _ w) hg
set_option maxHeartbeats 2000000 in
theorem clone16 (A : Option Addr) (c : Nat) (zs : List Int) (w : World) (hL : Lies w A (zs.map (.int .u16))) (hl : zs.length ≤ 100000) :
    Calls Tryd.prog 54 #[.slice A zs.length c] w (OwnEnd 37 .u16 zs w) := by
  obtain ⟨i0, hi, hz0, hz1, hz2⟩ := info_parts info16
  have q : ∀ (w : World) (a : Option Addr) (n c n' c' : Nat), (binOp .eql 22 (.slice a n c) (.slice none n' c')).run Tryd.prog w = .ok (.bool a.isNone) w := fun w a n c n' c' => Lib.run_eql_slice_nil w _ _ a n c n' c' Tryd.underlying22
  cases A with
  | none =>
    obtain rfl := lies_nil hL
    clear hL hl hi hz0 hz1 hz2
    go_enter Tryd.func54, Tryd.ntmps54
    go_wp2_with fail
    go_ret
    exact ⟨none, 0, rfl, World.ownsRow_nil _ _ _ _, Ext.refl _⟩
  | some a =>
    have HL := Lib.hid (hL.below ((Below.refl w.heap.size w).alloc (Nat.le_refl _) (.cells #[] 37)))
    have HI := Lib.hid hi; have HZ0 := Lib.hid hz0; have HZ1 := Lib.hid hz1; have HZ2 := Lib.hid hz2
    clear hL hi hz0 hz1 hz2
    go_enter Tryd.func54, Tryd.ntmps54
    go_wp2_with (at_builtin; refine wpList_fresh rfl _ _ 22 rfl w.heap.size 37 i0 (.int .u16 0) 1 2 Tryd.underlying22 HI.out HZ0.out HZ1.out HZ2.out rfl (by decide) _ 0 [] rfl (own_empty w (Nat.le_refl _) _ _) (some a) zs.length c (zs.map (.int .u16)) rfl (by simp) HL.out (ints_one _ _) (by unfold maxLen; omega) (by omega) (by simp) ?_; intro A1 c1 w1 h1 h2 h3 h4; simp only [Nat.zero_add, List.nil_append] at h1 h3; have HO := Lib.hid h3; have HB := Lib.hid (fresh_ext h4); clear h1 h2 h3 h4; rw [Nat.zero_add])
    go_ret
    exact ⟨A1, c1, rfl, HO.out, HB.out⟩
set_option maxHeartbeats 2000000 in
theorem clone32 (A : Option Addr) (c : Nat) (zs : List Int) (w : World) (hL : Lies w A (zs.map (.int .u32))) (hl : zs.length ≤ 100000) :
    Calls Tryd.prog 43 #[.slice A zs.length c] w (OwnEnd 36 .u32 zs w) := by
  obtain ⟨i0, hi, hz0, hz1, hz2⟩ := info_parts info32
  have q : ∀ (w : World) (a : Option Addr) (n c n' c' : Nat), (binOp .eql 23 (.slice a n c) (.slice none n' c')).run Tryd.prog w = .ok (.bool a.isNone) w := fun w a n c n' c' => Lib.run_eql_slice_nil w _ _ a n c n' c' Tryd.underlying23
  cases A with
  | none =>
    obtain rfl := lies_nil hL
    clear hL hl hi hz0 hz1 hz2
    go_enter Tryd.func43, Tryd.ntmps43
    go_wp2_with fail
    go_ret
    exact ⟨none, 0, rfl, World.ownsRow_nil _ _ _ _, Ext.refl _⟩
  | some a =>
    have HL := Lib.hid (hL.below ((Below.refl w.heap.size w).alloc (Nat.le_refl _) (.cells #[] 36)))
    have HI := Lib.hid hi; have HZ0 := Lib.hid hz0; have HZ1 := Lib.hid hz1; have HZ2 := Lib.hid hz2
    clear hL hi hz0 hz1 hz2
    go_enter Tryd.func43, Tryd.ntmps43
    go_wp2_with (at_builtin; refine wpList_fresh rfl _ _ 23 rfl w.heap.size 36 i0 (.int .u32 0) 1 4 Tryd.underlying23 HI.out HZ0.out HZ1.out HZ2.out rfl (by decide) _ 0 [] rfl (own_empty w (Nat.le_refl _) _ _) (some a) zs.length c (zs.map (.int .u32)) rfl (by simp) HL.out (ints_one _ _) (by unfold maxLen; omega) (by omega) (by simp) ?_; intro A1 c1 w1 h1 h2 h3 h4; simp only [Nat.zero_add, List.nil_append] at h1 h3; have HO := Lib.hid h3; have HB := Lib.hid (fresh_ext h4); clear h1 h2 h3 h4; rw [Nat.zero_add])
    go_ret
    exact ⟨A1, c1, rfl, HO.out, HB.out⟩
set_option maxHeartbeats 2000000 in
theorem words (n0 : Nat) (h : Hd) (s : St) (w : World) (p : PP n0 h s w) : Calls Tryd.prog 30 #[ptr h.r] w (OwnEnd 36 .u32 s.W w) := by
  have c1 : w.cell? ⟨h.r, 1, none⟩ = some (.slice h.AW s.W.length h.cW) := p.blk.cell 1
  have hcl := clone32 h.AW h.cW s.W w (lies_own p.ow) (by have := p.fit.wl; omega)
  have HC := Lib.hid hcl
  clear p hcl
  generalize s.W = W at *
  go_enter Tryd.func30, Tryd.ntmps30
  go_wp2_with fail
  refine (HC.out).mono ?_
  rintro e w1 ⟨A', c', rfl, h1, h2⟩
  have H1 := Lib.hid h1; have H2 := Lib.hid h2
  clear h1 h2
  go_wp2_with fail
  go_ret
  exact ⟨A', c', rfl, H1.out, H2.out⟩
def NewEnd (t : TypeId) (s : St) (w : World) (e : Ending) (w' : World) : Prop := ∃ h : Hd, e = .returned (ptr h.r) ∧ PM t 37 36 w.heap.size h s w' ∧ Ext w w'
def noughts (n : Nat) : List Int := List.replicate n 0
def noughtV (n : Nat) : Array Value := ((noughts n).map (Value.int .u32)).toArray
theorem make32 (n : Nat) (hn : n ≤ 16000) (W : World) : (Instr.makeSlice 23 (.int .i64 (n : Int)) (.int .i64 (n : Int))).run Tryd.prog W = .ok (.slice (some ⟨W.heap.size, 0, none⟩) n n) (W.alloc (.cells (noughtV n) 36)) := by
  obtain ⟨i0, hi, hz0, hz1, hz2⟩ := info_parts info32
  have h := run_make (P := Tryd.prog) W 23 36 i0 (.int .u32 0) Tryd.underlying23 hi hz0 .i64 .i64 n n (by omega) (Int.le_refl _) (by rw [hz2]; omega) (by omega)
  have e : madeCells (Value.int .u32 0).cells ((n : Int).toNat * i0.size) = noughtV n := by
    rw [hz1]
    apply Array.toList_inj.1
    have := toList_madeCells_one (Value.int .u32 0) n
    simpa [noughtV, noughts, Value.cells] using this
  rw [e] at h
  simpa using h
theorem noughts_len (n : Nat) : (noughts n).length = n := by simp [noughts]
theorem own_ne {w : World} {base : Nat} {e : TypeId} {size n c b : Nat} {A : Option Addr} {xs : List Value} (h : w.ownsRow base e size (.slice A n c) n xs) (hb : b < base ∨ w.heap.size ≤ b) : A ≠ some ⟨b, 0, none⟩ := fun hA => by
  rcases own_form h with ⟨h1, _⟩ | ⟨g, h1, h2, h3⟩
  · rw [h1] at hA; cases hA
  · rw [h1] at hA; cases hA; omega
theorem new_end {t : TypeId} {C T : List Int} {n gm b : Nat} {A1 A3 : Option Addr} {c1 c3 : Nat} {w wb : World} (hb : b = wb.heap.size) (he : Ext w wb)
    (o1 : wb.ownsRow w.heap.size 37 1 (.slice A1 C.length c1) C.length (C.map (.int .u16)))
    (om : wb.ownsRow w.heap.size 36 1 (.slice (some ⟨gm, 0, none⟩) n n) n ((noughts n).map (.int .u32)))
    (o3 : wb.ownsRow w.heap.size 36 1 (.slice A3 T.length c3) T.length (T.map (.int .u32)))
    (d1 : A1 ≠ some ⟨gm, 0, none⟩) (d3 : A3 ≠ some ⟨gm, 0, none⟩) (f : Fit ⟨C, noughts n, T, 0, 0⟩) :
    NewEnd t ⟨C, noughts n, T, 0, 0⟩ w (.returned (ptr b)) (wb.alloc (.cells #[.slice A1 C.length c1, .slice (some ⟨gm, 0, none⟩) n n, .slice A3 T.length c3, .int .i64 0, .int .u32 0] t)) := by
  subst hb
  have hx : Ext wb (wb.alloc (.cells #[.slice A1 C.length c1, .slice (some ⟨gm, 0, none⟩) n n, .slice A3 T.length c3, .int .i64 0, .int .u32 0] t)) := Ext.alloc _ _
  refine ⟨⟨wb.heap.size, A1, c1, some ⟨gm, 0, none⟩, n, A3, c3⟩, rfl, ⟨?_, Ext.own hx o1, ?_, Ext.own hx o3, own_ne o1 (.inr (Nat.le_refl _)), own_ne om (.inr (Nat.le_refl _)), own_ne o3 (.inr (Nat.le_refl _)), ?_, he.size, f⟩, he.trans hx⟩
  · show Blk _ _ _ #[_, .slice _ (noughts n).length n, _, _, _]
    rw [noughts_len]
    exact Blk.new wb t _
  · show World.ownsRow _ _ _ _ (.slice _ (noughts n).length n) (noughts n).length _
    rw [noughts_len]
    exact Ext.own hx om
  · intro k hk
    cases hk
    exact ⟨d1, d3⟩
set_option maxRecDepth 100000 in
set_option maxHeartbeats 4000000 in
theorem new_any (AC : Option Addr) (cC : Nat) (C : List Int) (z y : Int) (n : Nat) (hmin : (if (16000 : Int) < z then 16000 else z) = y) (hmax : (if (0 : Int) < y then y else 0) = (n : Int)) (AT : Option Addr) (cT : Nat) (T : List Int) (w : World) (hC : Lies w AC (C.map (.int .u16))) (hT : Lies w AT (T.map (.int .u32))) (hc : C.length ≤ cC) (hcm : cC ≤ maxLen)
    (f : Fit ⟨C, noughts n, T, 0, 0⟩) (lT : T.length ≤ 60000) :
    Calls Tryd.prog 39 #[.slice AC C.length cC, .int .i64 z, .slice AT T.length cT] w (NewEnd 80 ⟨C, noughts n, T, 0, 0⟩ w) := by
  have lC : C.length ≤ 60000 := f.cl
  have n1 : n ≤ 16000 := by have := f.wl; simp only [noughts_len] at this; exact this
  have hk1 := fun W h => clone16 AC cC C W h (by omega)
  have hk3 := fun W h => clone32 AT cT T W h (by omega)
  unfold maxLen at hcm
  have HC := Lib.hid hC; have HT := Lib.hid hT; have K1 := Lib.hid hk1; have K3 := Lib.hid hk3
  have HCC := Lib.hid hc; have HLC := Lib.hid lC; have HLT := Lib.hid lT
  have m1 : ((60000 : Int) < (C.length : Int)) = False := by simp; omega
  have m4 : (0 : Int) ≤ (C.length : Int) := by omega
  have m5 : (C.length : Int) ≤ (cC : Int) := by omega
  have HF := Lib.hid f
  clear hC hT hk1 hk3 lC lT hc f
  go_enter Tryd.func39, Tryd.ntmps39
  go_wp2_with fail
  have E0 := Ext.drew w
  have mk := make32 n n1
  go_region_held3 (fun w' => Ext w w') ((repeat (first | assumption | exact Ext.refl _ | with_reducible refine Ext.trans ?_ (Ext.alloc _ _) | with_reducible refine Ext.trans ?_ (Ext.drew _) | with_reducible refine Ext.trans ?_ HB1.out | with_reducible refine Ext.trans ?_ HB3.out))) (first | (go_at_call 54; refine (K1.out _ (Ext.lies (by assumption) HC.out)).mono ?_; rintro e w1 ⟨A1, c1, rfl, ho1, hb1⟩; have HO1 := Lib.hid ho1; have HB1 := Lib.hid hb1; clear ho1 hb1) | (go_at_call 43; refine (K3.out _ (Ext.lies (by assumption) HT.out)).mono ?_; rintro e w3 ⟨A3, c3, rfl, ho3, hb3⟩; have HO3 := Lib.hid ho3; have HB3 := Lib.hid hb3; clear ho3 hb3))
  all_goals
    go_wp2_with fail
    go_ret
    have s1 := HB1.out.size
    have s3 := HB3.out.size
    simp only [World.size_alloc, World.size_drew] at s1 s3
    refine new_end ?_ ?_ (own_low (Ext.own ?_ HO1.out) ?_) (own_low (Ext.own ?_ (World.ownsRow_lit _ (noughtV n) n (Nat.le_refl _) ?_ ?_)) ?_) (own_low (Ext.own ?_ HO3.out) ?_) (own_ne HO1.out ?_) (own_ne HO3.out ?_) HF.out
    all_goals first
      | omega
      | (simp only [World.size_alloc, World.size_drew]; done)
      | (simp only [World.size_alloc, World.size_drew]; omega)
      | (unfold maxLen; omega)
      | (simp [noughtV, noughts]; done)
      | ((repeat (first | assumption | exact Ext.refl _ | with_reducible refine Ext.trans ?_ (Ext.alloc _ _) | with_reducible refine Ext.trans ?_ (Ext.drew _) | with_reducible refine Ext.trans ?_ HB1.out | with_reducible refine Ext.trans ?_ HB3.out)); done)
end Go.Proofs.YtkafmpdjpjgkgaaDoor.Mm
