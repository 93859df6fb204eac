/- DERIVED. CoOw in one text. By an AI agent. -/
import Derived.Test.YtcigchpcffpemaaDoorZ53
import Derived.Test.YtcigchpcffpemaaDoorZ31
import Derived.Test.YtcigchpcffpemaaDoorZ30
import Derived.Test.YtcigchpcffpemaaDoorZ05
import Derived.Deep.RegionHeld3
import Derived.BigRegion
import Derived.Deep.DeepCutAuto
/- DERIVED. The walk of CoreOne. By an AI agent. -/
namespace Go.Proofs.YtcigchpcffpemaaDoor.Co
open Go.ChangeShapes Go.WideShapes Go.ChangeAt Go.RowKit WMath Word Ref Args Mm MmR
set_option linter.unusedVariables false
set_option linter.unusedSimpArgs false
abbrev twoC (a b : S) : Array Value := #[u (a.r 0), u (a.r 1), u (a.r 2), u (a.r 3), u (a.r 4), u (a.r 5), u (a.r 6), u (a.r 7), u a.pc, .bool a.n, .bool a.z, .bool a.c, .bool a.v, u (b.r 0), u (b.r 1), u (b.r 2), u (b.r 3), u (b.r 4), u (b.r 5), u (b.r 6), u (b.r 7), u b.pc, .bool b.n, .bool b.z, .bool b.c, .bool b.v]
/-- Registers taken over, one behind the other. -/
def mx : List Int → S → S → S
  | [], _, b => b
  | i :: ls, a, b => mx ls a (b.up i.toNat (a.r i.toNat))
theorem mx_rest : ∀ (ls : List Int) (a b : S), (mx ls a b).pc = b.pc ∧ (mx ls a b).n = b.n ∧ (mx ls a b).z = b.z ∧ (mx ls a b).c = b.c ∧ (mx ls a b).v = b.v
  | [], _, _ => ⟨rfl, rfl, rfl, rfl, rfl⟩
  | _ :: ls, a, b => mx_rest ls a (b.up _ _)
theorem mx_keep : ∀ (ls : List Int) (a b : S) (j : Nat), b.r j = a.r j → (mx ls a b).r j = a.r j
  | [], _, _, _, h => h
  | i :: ls, a, b, j, h => mx_keep ls a _ j (by show (if j = i.toNat then _ else _) = _; split <;> simp_all)
theorem mx_in : ∀ (ls : List Int) (a b : S) (j : Nat), (j : Int) ∈ ls → (mx ls a b).r j = a.r j
  | i :: ls, a, b, j, h => by
    rcases List.mem_cons.1 h with e | h
    · exact mx_keep ls a _ j (by show (if j = i.toNat then _ else _) = _; rw [if_pos (by omega), ← e]; rfl)
    · exact mx_in ls a _ j h
theorem fil_mem (f : Nat → Bool) (j : Nat) (hj : j < 8) (h : f j = true) : (j : Int) ∈ ThRef.fil f 8 := by
  unfold ThRef.fil
  exact List.mem_map.2 ⟨j, List.mem_filter.2 ⟨List.mem_range.2 hj, h⟩, rfl⟩
theorem fil_lt (f : Nat → Bool) (z : Int) (h : z ∈ ThRef.fil f 8) : 0 ≤ z ∧ z < 8 := by
  unfold ThRef.fil at h
  obtain ⟨j, hj, rfl⟩ := List.mem_map.1 h
  have := List.mem_range.1 (List.mem_filter.1 hj).1
  omega
/-- The law's second state: the first one's registers that are read, its flags. -/
def bOf (L : List Int) (a b : S) : S := { (mx L a b) with n := a.n, z := a.z, c := a.c, v := a.v, pc := 0 }
theorem ag_of {k D N M : Nat} {i : Int} (hw : Wi k D N M i) (a b : S) : Ag k D N M i (a.to 0#32) (bOf (ThRef.readsL k D N M i) a b) := by
  have hr : ThRef.readsL k D N M i = ThRef.fil (ThRef.msk k D N M i) 8 := by unfold ThRef.readsL; rw [if_pos hw.can]
  have key : ∀ j : Nat, j < 8 → ThRef.msk k D N M i j = true → (bOf (ThRef.readsL k D N M i) a b).r j = a.r j := fun j hj h => by
    show (mx (ThRef.readsL k D N M i) a b).r j = a.r j
    rw [hr]
    exact mx_in _ a b j (fil_mem _ j hj h)
  refine ⟨fun h => ?_, fun h => ?_, fun h => ?_, rfl, rfl, rfl, rfl, rfl⟩
  · have h18 : k ≠ 18 := by rintro rfl; cases h
    exact key D (hw.d8 h18) (by unfold ThRef.msk; rw [h]; simp)
  · exact key N hw.n8 (by unfold ThRef.msk; rw [h]; simp)
  · exact key M hw.m8 (by unfold ThRef.msk; rw [h]; simp)
def codeO (hh : Int) : List Int := [hh, 1, 2, 3]
theorem fitO (hh : Int) (h0 : 0 ≤ hh) (h1 : hh < 65536) : Fit ⟨codeO hh, noughts 4, [9], 0, 0⟩ :=
  ⟨fun z hz => by simp [codeO] at hz; omega, noughts_in 4, fun z hz => by simp at hz; omega, Nat.zero_le _, ⟨Int.le_refl _, show (0 : Int) < 4294967296 by decide⟩, show 4 ≤ 60000 by decide, show (noughts 4).length ≤ 16000 by decide, show 1 ≤ 140737488351232 by decide⟩
/-- The law's first boxes. -/
structure Oa (W : World) (cs : Array Value) (a b : S) (w : World) : Prop where
  b0 : Blk w W.heap.size 23 cs
  b1 : Blk w (W.heap.size + 1) 60 (twoC a b)
  low : Below W.heap.size W w
theorem Oa.below {W w w' : World} {cs : Array Value} {a b : S} (h : Oa W cs a b w) (hb : Below w.heap.size w w') : Oa W cs a b w' := ⟨h.b0.below hb h.b0.lt, h.b1.below hb h.b1.lt, h.low.trans (hb.mono h.low.size)⟩
theorem oa_new (W : World) (cs : Array Value) (a b : S) : Oa W cs a b ((W.alloc (.cells cs 23)).alloc (.cells (twoC a b) 60)) := by
  have h0 := Blk.new W 23 cs
  have h1 := Blk.new (W.alloc (.cells cs 23)) 60 (twoC a b)
  simp only [World.size_alloc] at h1
  exact ⟨h0.alloc _, h1, ((Below.refl _ _).alloc (Nat.le_refl _) _).alloc (by simp) _⟩
set_option maxRecDepth 100000 in
set_option maxHeartbeats 4000000 in
theorem oneNo (W : World) (op d n m imm : Int) (a b : S) (hT : Tp.Tb W) (hc : ThRef.canB op d n m imm = false) :
    Calls Tryd.prog 7 #[ThRef.ins op d n m imm, .agg (twoC a b)] W fun e w' => e = .returned (.bool true) ∧ Below W.heap.size W w' := by
  have hp := fun w => ThRef.put op d n m imm w
  have hv : ThRef.putV op d n m imm = .tuple #[.int .u16 0, .int .i64 1] := by unfold ThRef.putV; rw [hc]; rfl
  rw [hv] at hp
  have HP := Lib.hid hp; have HT := Lib.hid hT; have HB := Lib.hid (oa_new W #[.int .i64 op, .int .i64 d, .int .i64 n, .int .i64 m, .int .i64 imm] a b)
  clear hp hT hv hc
  go_enter Tryd.func7, Tryd.ntmps7
  go_wp2_with fail
  refine (HP.out _).mono ?_
  rintro e w1 ⟨rfl, hb⟩
  have HB1 := Lib.hid (HB.out.low.trans (hb.mono HB.out.low.size))
  clear hb HB HP
  go_wp2_with fail
  refine (lives _ (HT.out.below HB1.out)).mono ?_
  rintro e w2 ⟨rfl, hb⟩
  have HB2 := Lib.hid (HB1.out.trans (hb.mono HB1.out.size))
  clear hb
  go_wp2_with fail
  go_ret
  exact ⟨rfl, HB2.out⟩
/-- The boxes behind the pair. -/
structure Ob (W : World) (cs : Array Value) (a b : S) (ga gb : Nat) (w : World) : Prop where
  b0 : Blk w W.heap.size 23 cs
  ba : Blk w ga 27 (sC a)
  bb : Blk w gb 27 (sC b)
  low : Below W.heap.size W w
  ne : ga ≠ gb
  la : W.heap.size < ga
  lb : W.heap.size < gb
section
variable {W w w' : World} {cs : Array Value} {a b a' b' : S} {ga gb : Nat}
theorem Ob.below (h : Ob W cs a b ga gb w) (hb : Below w.heap.size w w') : Ob W cs a b ga gb w' := ⟨h.b0.below hb h.b0.lt, h.ba.below hb h.ba.lt, h.bb.below hb h.bb.lt, h.low.trans (hb.mono h.low.size), h.ne, h.la, h.lb⟩
theorem Ob.drew (h : Ob W cs a b ga gb w) : Ob W cs a b ga gb w.drew := h.below (Below.drew (Below.refl _ _))
theorem Ob.upd {X : Nat → Prop} (h : Ob W cs a b ga gb w) (hu : Upd X w w') (hX : ∀ k, X k → ga < k ∧ gb < k) : Ob W cs a b ga gb w' :=
  ⟨h.b0.upd hu (fun q => by have := hX _ q; have := h.la; omega), h.ba.upd hu (fun q => by have := hX _ q; omega), h.bb.upd hu (fun q => by have := hX _ q; omega), Below.trans h.low (hu.below h.low.size fun k hk => by have := hX k hk; have := h.la; omega), h.ne, h.la, h.lb⟩
theorem Ob.setB (h : Ob W cs a b ga gb w) (j : Nat) (v : Value) (hc : (sC b).setIfInBounds j v = sC b') : Ob W cs a b' ga gb (w.setCell ⟨gb, j, none⟩ v) := by
  have hu := upd_set w gb j v (Upd.refl _ w)
  have h1 := h.ne; have h2 := h.lb
  exact ⟨h.b0.upd hu (by omega), h.ba.upd hu (by omega), blk_one h.bb j v hc, upd_low h.low hu (by omega), h.ne, h.la, h.lb⟩
theorem Ob.setA (h : Ob W cs a b ga gb w) (j : Nat) (v : Value) (hc : (sC a).setIfInBounds j v = sC a') : Ob W cs a' b ga gb (w.setCell ⟨ga, j, none⟩ v) := by
  have hu := upd_set w ga j v (Upd.refl _ w)
  have h1 := h.ne; have h2 := h.la
  exact ⟨h.b0.upd hu (by omega), blk_one h.ba j v hc, h.bb.upd hu (by omega), upd_low h.low hu (by omega), h.ne, h.la, h.lb⟩
end
theorem lies_new2 (w : World) (zs ys : List Int) : Lies ((w.alloc (.cells (zs.map (Value.int .u16)).toArray 29)).alloc (.cells (ys.map (Value.int .u32)).toArray 24)) (some ⟨w.heap.size + 1, 0, none⟩) (ys.map (.int .u32)) := by
  have := lies_new (w.alloc (.cells (zs.map (Value.int .u16)).toArray 29)) .u32 24 ys
  rw [World.size_alloc] at this
  exact this
theorem no_i64 (s : S) (n : Nat) (z : Int) : (sC s)[n]? ≠ some (.int .i64 z) := by
  intro h
  match n, h with
  | 0, h | 1, h | 2, h | 3, h | 4, h | 5, h | 6, h | 7, h | 8, h | 9, h | 10, h | 11, h | 12, h => simp at h
  | n + 13, h => simp at h
/-- The list of registers does not lie in the second state. -/
theorem Ob.reads {W w : World} {cs : Array Value} {a b : S} {ga gb gL oL : Nat} {L : List Int} (h : Ob W cs a b ga gb w) (hl : ∀ i, i < L.length → w.cell? ⟨gL, oL + i, none⟩ = some (.int .i64 (L[i]?.getD 0))) (j : Nat) (v : Value) : ThRef.Reads64 (w.setCell ⟨gb, j, none⟩ v).drew (some ⟨gL, oL, none⟩) L := by
  refine .inr ⟨gL, oL, rfl, fun i hi => ?_⟩
  have h1 := hl i hi
  have hne : gL ≠ gb := by
    rintro rfl
    rw [h.bb.cell (oL + i)] at h1
    exact no_i64 _ _ _ h1
  have hu := upd_set w gb j v (Upd.refl _ w)
  exact (hu.cell (p := ⟨gL, oL + i, none⟩) (World.block_lt_of_cell? w _ h1) hne).trans h1
theorem ob_new {W w1 : World} {cs : Array Value} {a b : S} (h : Oa W cs a b w1) (x y : S) : Blk ((w1.alloc (.cells (sC x) 27)).alloc (.cells (sC y) 27)).drew w1.heap.size 27 (sC x) ∧ Blk ((w1.alloc (.cells (sC x) 27)).alloc (.cells (sC y) 27)).drew (w1.heap.size + 1) 27 (sC y) ∧ Oa W cs a b ((w1.alloc (.cells (sC x) 27)).alloc (.cells (sC y) 27)).drew := by
  have h1 := Blk.new (w1.alloc (.cells (sC x) 27)) 27 (sC y)
  simp only [World.size_alloc] at h1
  exact ⟨((Blk.new w1 27 (sC x)).alloc _).drew, h1.drew, h.below (((((Below.refl w1.heap.size w1).alloc (Nat.le_refl _) _).alloc (by simp) _).drew))⟩
set_option maxRecDepth 100000 in
set_option maxHeartbeats 8000000 in
theorem oneYes (W : World) (k D N M : Nat) (i : Int) (hw : Wi k D N M i) (a b : S) (hT : Tp.Tb W) (hh : Nat) (h1 : hh < 65536) (hv : ThRef.putV k D N M i = .tuple #[.int .u16 hh, .int .i64 0]) (htf : Tp.takeF 21 0 hh = (k, ⟨D, N, M, i⟩, 0)) :
    Calls Tryd.prog 7 #[ThRef.ins k D N M i, .agg (twoC a b)] W fun e w' => e = .returned (.bool true) ∧ Below W.heap.size W w' := by
  have hp := fun w => ThRef.put k D N M i w
  rw [hv] at hp
  have hrd : ∀ z ∈ ThRef.readsL k D N M i, 0 ≤ z ∧ z < 8 := by
    unfold ThRef.readsL
    rw [if_pos hw.can]
    exact fil_lt _
  have hrl : (ThRef.readsL k D N M i).length ≤ 8 := by unfold ThRef.readsL; rw [if_pos hw.can]; exact ThRef.fil_len _ 8
  have hag := ag_of hw a b
  have hR := fun w => ThRef.reads k D N M i w
  generalize ThRef.readsL k D N M i = L at *
  have HP := Lib.hid hp; have HT := Lib.hid hT; have HB := Lib.hid (oa_new W (iC k D N M i) a b); have HF := Lib.hid (fitO hh (by omega) (by omega)); have HW := Lib.hid hw; have HTF := Lib.hid htf
  have HRD := Lib.hid hrd; have HRL := Lib.hid hrl; have HAG := Lib.hid hag; have HR := Lib.hid hR
  clear hp hT hv h1 hw htf hrd hrl hag hR
  go_enter Tryd.func7, Tryd.ntmps7
  go_wp2_with fail
  refine (HP.out _).mono ?_
  rintro e w1 ⟨rfl, hb⟩
  have HB1 := Lib.hid (HB.out.below hb)
  clear hb HB HP
  go_upto_region 4 with fail
  obtain ⟨n0, n1, n2, n3, n4, n5, n6, n7, n8, n9, n10, n11, n12⟩ : w1.cell? ⟨W.heap.size + 1, 0, none⟩ = some (u (a.r 0)) ∧ w1.cell? ⟨W.heap.size + 1, 1, none⟩ = some (u (a.r 1)) ∧ w1.cell? ⟨W.heap.size + 1, 2, none⟩ = some (u (a.r 2)) ∧ w1.cell? ⟨W.heap.size + 1, 3, none⟩ = some (u (a.r 3)) ∧ w1.cell? ⟨W.heap.size + 1, 4, none⟩ = some (u (a.r 4)) ∧ w1.cell? ⟨W.heap.size + 1, 5, none⟩ = some (u (a.r 5)) ∧ w1.cell? ⟨W.heap.size + 1, 6, none⟩ = some (u (a.r 6)) ∧ w1.cell? ⟨W.heap.size + 1, 7, none⟩ = some (u (a.r 7)) ∧ w1.cell? ⟨W.heap.size + 1, 8, none⟩ = some (u a.pc) ∧ w1.cell? ⟨W.heap.size + 1, 9, none⟩ = some (.bool a.n) ∧ w1.cell? ⟨W.heap.size + 1, 10, none⟩ = some (.bool a.z) ∧ w1.cell? ⟨W.heap.size + 1, 11, none⟩ = some (.bool a.c) ∧ w1.cell? ⟨W.heap.size + 1, 12, none⟩ = some (.bool a.v) := have h := HB1.out.b1; ⟨h.cell 0, h.cell 1, h.cell 2, h.cell 3, h.cell 4, h.cell 5, h.cell 6, h.cell 7, h.cell 8, h.cell 9, h.cell 10, h.cell 11, h.cell 12⟩
  obtain ⟨z0, z1, z2, z3, z4, z5, z6, z7, z8, z9, z10, z11, z12⟩ : w1.cell? ⟨W.heap.size + 1, 13, none⟩ = some (u (b.r 0)) ∧ w1.cell? ⟨W.heap.size + 1, 14, none⟩ = some (u (b.r 1)) ∧ w1.cell? ⟨W.heap.size + 1, 15, none⟩ = some (u (b.r 2)) ∧ w1.cell? ⟨W.heap.size + 1, 16, none⟩ = some (u (b.r 3)) ∧ w1.cell? ⟨W.heap.size + 1, 17, none⟩ = some (u (b.r 4)) ∧ w1.cell? ⟨W.heap.size + 1, 18, none⟩ = some (u (b.r 5)) ∧ w1.cell? ⟨W.heap.size + 1, 19, none⟩ = some (u (b.r 6)) ∧ w1.cell? ⟨W.heap.size + 1, 20, none⟩ = some (u (b.r 7)) ∧ w1.cell? ⟨W.heap.size + 1, 21, none⟩ = some (u b.pc) ∧ w1.cell? ⟨W.heap.size + 1, 22, none⟩ = some (.bool b.n) ∧ w1.cell? ⟨W.heap.size + 1, 23, none⟩ = some (.bool b.z) ∧ w1.cell? ⟨W.heap.size + 1, 24, none⟩ = some (.bool b.c) ∧ w1.cell? ⟨W.heap.size + 1, 25, none⟩ = some (.bool b.v) := have h := HB1.out.b1; ⟨h.cell 13, h.cell 14, h.cell 15, h.cell 16, h.cell 17, h.cell 18, h.cell 19, h.cell 20, h.cell 21, h.cell 22, h.cell 23, h.cell 24, h.cell 25⟩
  have hq : W.heap.size + 1 < w1.heap.size := HB1.out.b1.lt
  have hq2 : W.heap.size < w1.heap.size := by omega
  have hq3 : W.heap.size + 1 ≠ w1.heap.size := by omega
  have hq4 : W.heap.size ≠ w1.heap.size := by omega
  go_cut [7, 8] (fun va vb wx => ∃ ga gb : Nat, va = .pointer (some ⟨ga, 0, none⟩) ∧ vb = .pointer (some ⟨gb, 0, none⟩) ∧ Hid (Ob W (iC k D N M i) a b ga gb wx))
  case first => as_aux_lemma =>
    go_region
    · obtain ⟨k1, k2, k3⟩ := ob_new HB1.out a b
      have HO := Lib.hid (show Ob W (iC k D N M i) a b w1.heap.size (w1.heap.size + 1) ((w1.alloc (.cells (sC a) 27)).alloc (.cells (sC b) 27)).drew from ⟨k3.b0, k1, k2, k3.low, by omega, by omega, by omega⟩)
      obtain ⟨w2, hw2⟩ : ∃ w2, ((w1.alloc (.cells #[u (a.r 0), u (a.r 1), u (a.r 2), u (a.r 3), u (a.r 4), u (a.r 5), u (a.r 6), u (a.r 7), u a.pc, .bool a.n, .bool a.z, .bool a.c, .bool a.v] 27)).alloc (.cells #[u (b.r 0), u (b.r 1), u (b.r 2), u (b.r 3), u (b.r 4), u (b.r 5), u (b.r 6), u (b.r 7), u b.pc, .bool b.n, .bool b.z, .bool b.c, .bool b.v] 27)).drew = w2 := ⟨_, rfl⟩
      rw [hw2]
      have hw2' : ((w1.alloc (.cells (sC a) 27)).alloc (.cells (sC b) 27)).drew = w2 := hw2
      rw [hw2'] at HO
      clear hw2 hw2' k1 k2 k3
      go_wp2_with fail
      go_meet
      case rel => exact ⟨_, _, rfl, rfl, HO⟩
    · obtain ⟨k1, k2, k3⟩ := ob_new HB1.out b a
      have HO := Lib.hid (show Ob W (iC k D N M i) a b (w1.heap.size + 1) w1.heap.size ((w1.alloc (.cells (sC b) 27)).alloc (.cells (sC a) 27)).drew from ⟨k3.b0, k2, k1, k3.low, by omega, by omega, by omega⟩)
      obtain ⟨w2, hw2⟩ : ∃ w2, ((w1.alloc (.cells #[u (b.r 0), u (b.r 1), u (b.r 2), u (b.r 3), u (b.r 4), u (b.r 5), u (b.r 6), u (b.r 7), u b.pc, .bool b.n, .bool b.z, .bool b.c, .bool b.v] 27)).alloc (.cells #[u (a.r 0), u (a.r 1), u (a.r 2), u (a.r 3), u (a.r 4), u (a.r 5), u (a.r 6), u (a.r 7), u a.pc, .bool a.n, .bool a.z, .bool a.c, .bool a.v] 27)).drew = w2 := ⟨_, rfl⟩
      rw [hw2]
      have hw2' : ((w1.alloc (.cells (sC b) 27)).alloc (.cells (sC a) 27)).drew = w2 := hw2
      rw [hw2'] at HO
      clear hw2 hw2' k1 k2 k3
      go_wp2_with fail
      go_meet
      case rel => exact ⟨_, _, rfl, rfl, HO⟩
  case rest =>
  obtain ⟨ga, gb, rfl, rfl, HO⟩ := hcut
  clear n0 n1 n2 n3 n4 n5 n6 n7 n8 n9 n10 n11 n12 z0 z1 z2 z3 z4 z5 z6 z7 z8 z9 z10 z11 z12 hq hq2 hq3 hq4 HB1
  have i0 := HO.out.b0.cell 0; have i1 := HO.out.b0.cell 1; have i2 := HO.out.b0.cell 2; have i3 := HO.out.b0.cell 3; have i4 := HO.out.b0.cell 4
  simp at i0 i1 i2 i3 i4
  go_wp2_with fail
  refine (HR.out _).mono ?_
  rintro e w3 ⟨pL, cL, rfl, hrd3, hb⟩
  have HO3 := Lib.hid (HO.out.below hb)
  have HL3 := Lib.hid hrd3
  clear hb hrd3 i0 i1 i2 i3 i4 HO HR
  have hLl : L.length < 1000 := by have := HRL.out; omega
  go_wp2_with fail
  go_loopw [10] (fun vk wr => ∃ (kk : Nat) (s : S), kk ≤ L.length ∧ vk = .int .i64 kk ∧ Hid (mx (L.drop kk) a s = mx L a b) ∧ Hid (Ob W (iC k D N M i) a s ga gb wr) ∧ Hid (ThRef.Reads64 wr pL L)) (fun vk _ => L.length - (intOf vk).toNat)
  case atStart => exact ⟨0, b, Nat.zero_le _, rfl, Lib.hid rfl, HO3, HL3⟩
  case round =>
    clear HO3 HL3
    obtain ⟨kk, s, hk, rfl, HM, HO, HL⟩ := hrel
    by_cases hlt : kk < L.length
    · as_aux_lemma =>
      have hz := HRD.out (L[kk]'hlt) (List.getElem_mem hlt)
      have hd : L.drop kk = L[kk]'hlt :: L.drop (kk + 1) := List.drop_eq_getElem_cons hlt
      have hcell : ∃ g o, pL = some ⟨g, o, none⟩ ∧ ∀ i, i < L.length → wr.cell? ⟨g, o + i, none⟩ = some (.int .i64 (L[i]?.getD 0)) := by
        rcases HL.out with h | ⟨g, o, e, h⟩
        · rw [h] at hlt; simp at hlt
        · exact ⟨g, o, e, h⟩
      obtain ⟨gL, oL, rfl, hall⟩ := hcell
      have hcl : wr.cell? ⟨gL, oL + kk, none⟩ = some (.int .i64 (L[kk]'hlt)) := by rw [hall kk hlt, List.getElem?_eq_getElem hlt]; rfl
      have HALL := Lib.hid hall
      clear hall
      obtain ⟨j, hj⟩ := Int.eq_ofNat_of_zero_le hz.1
      rw [hj] at hcl hd hz
      have hj8 : j < 8 := by omega
      have hj2 : (j : Int) < 8 := by omega
      have hm2 : mx (L.drop (kk + 1)) a (s.up j (a.r j)) = mx L a b := by have := HM.out; rw [hd] at this; exact this
      have HM2 := Lib.hid hm2
      have ca := HO.out.ba.reg j hj8
      have cb := HO.out.bb.reg j hj8
      have fb := HO.out.bb.frozen j
      have hk0 : (0 : Int) ≤ (kk : Int) := by omega
      have hgg : ga ≠ gb := HO.out.ne
      have HLT := Lib.hid hlt
      have hki : (kk : Int) < (L.length : Int) := by omega
      clear hz hd hj hm2 hlt
      go_upto_region 9 with fail
      go_region
      have HON := Lib.hid ((HO.out.setB j (u (a.r j)) (b' := s.up j (a.r j)) (sC_set s j hj8 (a.r j))).drew)
      have HLN := Lib.hid (show ThRef.Reads64 (wr.setCell ⟨gb, j, none⟩ (u (a.r j))).drew (some ⟨gL, oL, none⟩) L from HO.out.reads HALL.out j (u (a.r j)))
      obtain ⟨w4, hw4⟩ : ∃ w4, (wr.setCell ⟨gb, j, none⟩ (u (a.r j))).drew = w4 := ⟨_, rfl⟩
      rw [hw4] at HON HLN
      rw [hw4]
      clear hw4 ca cb fb hcl
      go_wp2_with fail
      go_roundw
      case rel => exact ⟨kk + 1, s.up j (a.r j), by have := HLT.out; omega, by go_num, HM2, HON, HLN⟩
      case measure => have := HLT.out; simp [intOf]; omega
    · as_aux_lemma =>
      obtain rfl : kk = L.length := by omega
      have hs : s = mx L a b := by have := HM.out; rw [List.drop_length] at this; exact this
      subst hs
      clear hlt hk HM HL
      have hne : ga ≠ gb := HO.out.ne
      have e := mx_rest L a b
      have HMR := Lib.hid e
      clear e
      obtain ⟨n0, n1, n2, n3, n4, n5, n6, n7, n8, n9, n10, n11, n12⟩ := Blk.cells13 HO.out.ba
      obtain ⟨z0, z1, z2, z3, z4, z5, z6, z7, z8, z9, z10, z11, z12⟩ := Blk.cells13 HO.out.bb
      obtain ⟨f0, f1, f2, f3, f4, f5, f6, f7, f8, f9, f10, f11, f12⟩ := Blk.frozen13 HO.out.bb
      go_upto_region 10 with fail
      go_region
      have HO4 := Lib.hid (((((HO.out.setB 9 (.bool a.n) (b' := { mx L a b with n := a.n }) rfl).setB 10 (.bool a.z) (b' := { mx L a b with n := a.n, z := a.z }) rfl).setB 11 (.bool a.c) (b' := { mx L a b with n := a.n, z := a.z, c := a.c }) rfl).setB 12 (.bool a.v) (b' := { mx L a b with n := a.n, z := a.z, c := a.c, v := a.v }) rfl).drew)
      obtain ⟨w4, hw4⟩ : ∃ w4, ((((wr.setCell ⟨gb, 9, none⟩ (.bool a.n)).setCell ⟨gb, 10, none⟩ (.bool a.z)).setCell ⟨gb, 11, none⟩ (.bool a.c)).setCell ⟨gb, 12, none⟩ (.bool a.v)).drew = w4 := ⟨_, rfl⟩
      rw [hw4] at HO4
      rw [hw4]
      clear hw4 n0 n1 n2 n3 n4 n5 n6 n7 n8 n9 n10 n11 n12 z0 z1 z2 z3 z4 z5 z6 z7 z8 z9 z10 z11 z12 f0 f1 f2 f3 f4 f5 f6 f7 f8 f9 f10 f11 f12 HO
      have p1 : w4.cell? ⟨ga, 8, none⟩ = some (u a.pc) := HO4.out.ba.cell 8
      have p2 : w4.cell? ⟨gb, 8, none⟩ = some (u (mx L a b).pc) := HO4.out.bb.cell 8
      have p3 := HO4.out.ba.frozen 8; have p4 := HO4.out.bb.frozen 8
      go_upto_region 12 with fail
      have HO5 := Lib.hid ((HO4.out.setA 8 (u 0#32) (a' := a.to 0#32) rfl).setB 8 (u 0#32) (b' := bOf L a b) rfl)
      obtain ⟨w5, hw5⟩ : ∃ w5, (w4.setCell ⟨ga, 8, none⟩ (.int .u32 0)).setCell ⟨gb, 8, none⟩ (.int .u32 0) = w5 := ⟨_, rfl⟩
      rw [hw5]
      have hw5' : (w4.setCell ⟨ga, 8, none⟩ (u 0#32)).setCell ⟨gb, 8, none⟩ (u 0#32) = w5 := hw5
      rw [hw5'] at HO5
      clear hw5 hw5' p1 p2 p3 p4 HO4 HMR
      have hpc : ((a.to 0#32).pc.toNat : Int) = 0 := rfl
      have HPC := Lib.hid hpc
      clear hpc
      generalize a.to 0#32 = a0 at *
      generalize bOf L a b = b0 at *
      go_wp2_with fail
      refine (new_c (some ⟨w5.heap.size, 0, none⟩) 4 (codeO hh) 4 (some ⟨w5.heap.size + 1, 0, none⟩) 1 [9] _ ((lies_new w5 .u16 29 (codeO hh)).below ((Below.refl _ _).alloc (Nat.le_refl _) _)) (lies_new2 w5 (codeO hh) [9]) (Nat.le_refl _) (by decide) HF.out (by decide)).mono ?_
      rintro e w6 ⟨h, rfl, hp6, hx6⟩
      have hx5 : Below w5.heap.size w5 w6 := (((Below.refl _ _).alloc (Nat.le_refl _) _).alloc (by simp) _).trans (hx6.mono (by simp; omega))
      have HP6 := Lib.hid (show PP (w5.heap.size + 1 + 1) h ⟨codeO hh, noughts 4, [9], 0, 0⟩ w6 from by have := hp6; simpa only [World.size_alloc] using this)
      have HO6 := Lib.hid (HO5.out.below hx5)
      have HQ1 := Lib.hid (show ga < w5.heap.size + 1 + 1 ∧ gb < w5.heap.size + 1 + 1 from ⟨by have := HO5.out.ba.lt; omega, by have := HO5.out.bb.lt; omega⟩)
      clear hp6 hx6 hx5 HO5
      generalize w5.heap.size + 1 + 1 = n1 at *
      go_wp2_with fail
      refine (new_c (some ⟨w6.heap.size, 0, none⟩) 4 (codeO hh) 4 (some ⟨w6.heap.size + 1, 0, none⟩) 1 [9] _ ((lies_new w6 .u16 29 (codeO hh)).below ((Below.refl _ _).alloc (Nat.le_refl _) _)) (lies_new2 w6 (codeO hh) [9]) (Nat.le_refl _) (by decide) HF.out (by decide)).mono ?_
      rintro e w7 ⟨g, rfl, hp7, hx7⟩
      have hx6 : Below w6.heap.size w6 w7 := (((Below.refl _ _).alloc (Nat.le_refl _) _).alloc (by simp) _).trans (hx7.mono (by simp; omega))
      have HR7 := Lib.hid (show PP (w6.heap.size + 1 + 1) g ⟨codeO hh, noughts 4, [9], 0, 0⟩ w7 from by have := hp7; simpa only [World.size_alloc] using this)
      have HO7 := Lib.hid (HO6.out.below hx6)
      have HP7 := Lib.hid (HP6.out.below hx6)
      have HQ2 := Lib.hid (show (∀ q, h.B q → q < w6.heap.size + 1 + 1) ∧ ga < w6.heap.size + 1 + 1 ∧ gb < w6.heap.size + 1 + 1 from ⟨fun q hq => by have := (HP6.out.lt hq).2; omega, by have := HO6.out.ba.lt; omega, by have := HO6.out.bb.lt; omega⟩)
      clear hp7 hx7 hx6 HO6 HP6
      generalize w6.heap.size + 1 + 1 = n2 at *
      have hfe : fetchV ⟨codeO hh, noughts 4, [9], 0, 0⟩ (a0.pc.toNat : Int) = ((hh : Int), 0) := by rw [HPC.out]; rfl
      have hone := step_ag HW.out HAG.out ⟨codeO hh, noughts 4, [9], 0, 0⟩ hh hfe HTF.out
      have hwl : (⟨codeO hh, noughts 4, [9], 0, 0⟩ : St).W.length = 4 := noughts_len 4
      have hsl := stepV_len a0 ⟨codeO hh, noughts 4, [9], 0, 0⟩
      rw [hwl] at hsl
      clear hfe hwl HF HPC HTF
      generalize (⟨codeO hh, noughts 4, [9], 0, 0⟩ : St) = m0 at *
      have hc1 := fun w p t => cstep a0 n1 h m0 w p t
      have hc2 := fun w p t => cstep b0 n2 g m0 w p t
      rcases hq1 : stepV a0 m0 with ⟨x, st, er, m1⟩
      rcases hq2 : stepV b0 m0 with ⟨y, st', er', m2⟩
      rw [hq1] at hc1 hone hsl
      rw [hq2] at hc2 hone
      have he : er' = er := hone.er
      have hw2 : m2.W = m1.W := hone.w
      have HLEN := Lib.hid (show m1.W.length ≤ 100000 from by have : m1.W.length = 4 := hsl; omega)
      have HW2 := Lib.hid hw2
      have hpcxy : y.pc = x.pc := hone.pc
      have HXY := Lib.hid hpcxy
      have HONE := Lib.hid (show OneR k D i a0 b0 x y er er' m1.W m2.W from hone)
      subst he
      have HC1 := Lib.hid hc1; have HC2 := Lib.hid hc2
      clear hc1 hc2 hq1 hq2 hone hsl hw2 hpcxy HAG
      obtain ⟨n0, n1', n2', n3, n4, n5, n6, n7, n8, n9, n10, n11, n12⟩ := Blk.cells13 HO7.out.ba
      go_wp2_with fail
      refine (HC1.out _ HP7.out (HT.out.below HO7.out.low)).mono ?_
      rintro e w8 ⟨rfl, hp8, hu8⟩
      have HP8 := Lib.hid hp8
      have HR8 := Lib.hid (HR7.out.upd hu8 (fun q hq hx => by have h1 := (HR7.out.lt hq).1; have h2 := HQ2.out.1 q (Hd.XB hx); omega))
      have HO8 := Lib.hid (HO7.out.upd hu8 (fun q hq => by have h1 := HP7.out.X_low q hq; have h2 := HQ1.out; omega))
      clear hp8 hu8 n0 n1' n2' n3 n4 n5 n6 n7 n8 n9 n10 n11 n12 HC1 HP7 HR7 HO7
      go_upto_region 14 with fail
      have hx : Below w8.heap.size w8 (w8.alloc (.cells (sC x) 27)) := (Below.refl _ _).alloc (Nat.le_refl _) _
      have HP9 := Lib.hid (PM.below HP8.out hx)
      have HR9 := Lib.hid (PM.below HR8.out hx)
      have HO9 := Lib.hid (HO8.out.below hx)
      have HKX := Lib.hid (Blk.new w8 27 (sC x))
      have HXB := Lib.hid (show ∀ q, g.X q → q < w8.heap.size from fun q hq => (HR8.out.lt (Hd.XB hq)).2)
      obtain ⟨w9, hw9⟩ : ∃ w9, w8.alloc (.cells (sC x) 27) = w9 := ⟨_, rfl⟩
      rw [hw9] at HP9 HR9 HO9 HKX
      have hw9' : w8.alloc (.cells #[u (x.r 0), u (x.r 1), u (x.r 2), u (x.r 3), u (x.r 4), u (x.r 5), u (x.r 6), u (x.r 7), u x.pc, .bool x.n, .bool x.z, .bool x.c, .bool x.v] 27) = w9 := hw9
      rw [hw9']
      generalize w8.heap.size = gx at *
      clear hw9 hw9' hx HP8 HR8 HO8
      obtain ⟨n0, n1', n2', n3, n4, n5, n6, n7, n8, n9, n10, n11, n12⟩ := Blk.cells13 HO9.out.bb
      go_wp2_with fail
      refine (HC2.out _ HR9.out (HT.out.below HO9.out.low)).mono ?_
      rintro e w10 ⟨rfl, hr10, hu10⟩
      have HR10 := Lib.hid hr10
      have HP10 := Lib.hid (HP9.out.upd hu10 (fun q hq hx => by have h1 := HQ2.out.1 q hq; have h2 := HR9.out.X_low q hx; omega))
      have HO10 := Lib.hid (HO9.out.upd hu10 (fun q hq => by have h1 := HR9.out.X_low q hq; have h2 := HQ2.out.2; omega))
      have HX10 := Lib.hid (HKX.out.upd hu10 (fun hq => by have := HXB.out _ hq; omega))
      clear hr10 hu10 n0 n1' n2' n3 n4 n5 n6 n7 n8 n9 n10 n11 n12 HC2 HP9 HR9 HO9 HKX HXB
      go_upto_region 15 with fail
      have hx : Below w10.heap.size w10 (w10.alloc (.cells (sC y) 27)) := (Below.refl _ _).alloc (Nat.le_refl _) _
      have HP11 := Lib.hid (PM.below HP10.out hx)
      have HR11 := Lib.hid (PM.below HR10.out hx)
      have HO11 := Lib.hid (HO10.out.below hx)
      have HX11 := Lib.hid (HX10.out.below hx HX10.out.lt)
      have HY11 := Lib.hid (Blk.new w10 27 (sC y))
      obtain ⟨w11, hw11⟩ : ∃ w11, w10.alloc (.cells (sC y) 27) = w11 := ⟨_, rfl⟩
      rw [hw11] at HP11 HR11 HO11 HX11 HY11
      have hw11' : w10.alloc (.cells #[u (y.r 0), u (y.r 1), u (y.r 2), u (y.r 3), u (y.r 4), u (y.r 5), u (y.r 6), u (y.r 7), u y.pc, .bool y.n, .bool y.z, .bool y.c, .bool y.v] 27) = w11 := hw11
      rw [hw11']
      generalize w10.heap.size = gy at *
      clear hw11 hw11' hx HP10 HR10 HO10 HX10
      have i0 := HO11.out.b0.cell 0; have i1 := HO11.out.b0.cell 1; have i2 := HO11.out.b0.cell 2; have i3 := HO11.out.b0.cell 3; have i4 := HO11.out.b0.cell 4
      simp at i0 i1 i2 i3 i4
      go_wp2_with fail
      refine (ThRef.writes k D N M i _).mono ?_
      rintro e w12 ⟨rfl, hb⟩
      have HP12 := Lib.hid (PM.below HP11.out hb)
      have HR12 := Lib.hid (PM.below HR11.out hb)
      have HO12 := Lib.hid (HO11.out.below hb)
      have HX12 := Lib.hid (HX11.out.below hb HX11.out.lt)
      have HY12 := Lib.hid (HY11.out.below hb HY11.out.lt)
      clear hb i0 i1 i2 i3 i4 HP11 HR11 HO11 HX11 HY11
      obtain ⟨dv, sb, hwr, hdv⟩ : ∃ (dv : Nat) (sb : Bool), ThRef.wrV k D N M i = .tuple #[.int .i64 dv, .bool sb] ∧ (sb = true → dv = D ∧ ThRef.setsB k i = true) ∧ (sb = false → ThRef.setsB k i = false) := by
        unfold ThRef.wrV
        rw [HW.out.can, Bool.true_and]
        cases hs : ThRef.setsB k i with
        | true => exact ⟨D, true, by rw [if_pos rfl], fun _ => ⟨rfl, rfl⟩, fun h => absurd h Bool.false_ne_true.symm⟩
        | false => exact ⟨0, false, by rw [if_neg Bool.false_ne_true]; rfl, fun h => absurd h Bool.false_ne_true, fun _ => rfl⟩
      rw [hwr]
      have HDV := Lib.hid hdv
      clear hwr hdv
      have x8 : w12.cell? ⟨gx, 8, none⟩ = some (u x.pc) := HX12.out.cell 8
      have y8 : w12.cell? ⟨gy, 8, none⟩ = some (u x.pc) := by rw [← HXY.out]; exact HY12.out.cell 8
      go_wp2_with fail
      refine (Mm.words _ h _ _ HP12.out).mono ?_
      rintro e w13 ⟨A5, c5, rfl, ho13, hx13⟩
      have HR13 := Lib.hid (PM.below HR12.out hx13)
      have HO13 := Lib.hid (HO12.out.below hx13)
      have HX13 := Lib.hid (Blk.below HX12.out hx13 HX12.out.lt)
      have HY13 := Lib.hid (Blk.below HY12.out hx13 HY12.out.lt)
      have HL13 := Lib.hid (lies_own ho13)
      clear ho13 hx13 HP12 HR12 HO12 HX12 HY12 x8 y8
      go_wp2_with fail
      refine (Mm.words _ g _ _ HR13.out).mono ?_
      rintro e w14 ⟨A6, c6, rfl, ho14, hx14⟩
      rw [HW2.out] at ho14
      rw [HW2.out]
      have HO14 := Lib.hid (HO13.out.below hx14)
      have HX14 := Lib.hid (Blk.below HX13.out hx14 HX13.out.lt)
      have HY14 := Lib.hid (Blk.below HY13.out hx14 HY13.out.lt)
      have HL14 := Lib.hid (lies_own ho14); have HL15 := Lib.hid (HL13.out.below hx14)
      clear ho14 hx14 HR13 HO13 HX13 HY13 HL13
      go_wp2_with fail
      refine (MmR.same _ _ _ _ m1.W _ HL15.out HL14.out HLEN.out).mono ?_
      rintro e w15 ⟨rfl, hb⟩
      have HO := Lib.hid (HO14.out.below hb)
      have HX := Lib.hid (HX14.out.below hb HX14.out.lt)
      have HY := Lib.hid (HY14.out.below hb HY14.out.lt)
      clear hb HO14 HX14 HY14 HL14 HL15 HLEN HW2 HXY
      go_wp2_with fail
      go_loopw [21] (fun vk wr => ∃ kk : Nat, kk ≤ 8 ∧ vk = .int .i64 kk ∧ Hid (Ob W (iC k D N M i) a0 b0 ga gb wr) ∧ Hid (Blk wr gx 27 (sC x)) ∧ Hid (Blk wr gy 27 (sC y))) (fun vk _ => 8 - (intOf vk).toNat)
      case atStart => exact ⟨0, Nat.zero_le _, rfl, HO, HX, HY⟩
      case round =>
        clear HO HX HY
        obtain ⟨kk, hk, rfl, HO, HX, HY⟩ := hrel
        by_cases hlt : kk < 8
        · have hk8 : (kk : Int) < 8 := by omega
          have hk0 : (0 : Int) ≤ (kk : Int) := by omega
          have HLT := Lib.hid hlt
          have cx := HX.out.reg kk hlt; have cy := HY.out.reg kk hlt
          have ca := HO.out.ba.reg kk hlt; have cb := HO.out.bb.reg kk hlt
          by_cases hc : sb = true ∧ kk = dv ∧ er' = 0
          · as_aux_lemma =>
            obtain ⟨rfl, rfl, rfl⟩ := hc
            have hs := HDV.out.1 rfl
            have hr : y.r kk = x.r kk := by have := HONE.out.set hs.2 rfl; rw [hs.1]; exact this
            rw [hr] at cy
            generalize x.r kk = xk at *
            have hkk : ((kk : Int) == (kk : Int)) = true := by simp
            clear hs hr ca cb hlt hk
            go_upto_region 22 with fail
            go_quiet (fail)
            have HON := Lib.hid (HO.out.below (below_drewN (Below.refl _ _) nq)); have HXN := Lib.hid (HX.out.drewN nq); have HYN := Lib.hid (HY.out.drewN nq)
            generalize wr.drewN nq = wq at *
            clear cx cy HO HX HY
            go_wp2_with fail
            go_roundw
            case rel => exact ⟨kk + 1, by have := HLT.out; omega, by go_num, HON, HXN, HYN⟩
            case measure => have := HLT.out; simp [intOf]; omega
          · as_aux_lemma =>
            have hel := HONE.out.els kk (fun ⟨h1, h2, h3⟩ => hc (by
              cases hsb : sb with
              | true => exact ⟨rfl, by rw [(HDV.out.1 hsb).1]; exact h2, h3⟩
              | false => rw [HDV.out.2 hsb] at h1; exact absurd h1 Bool.false_ne_true))
            rw [hel.1] at cx
            rw [hel.2] at cy
            generalize a0.r kk = ak at *
            generalize b0.r kk = bk at *
            have key : sb = false ∨ (sb = true ∧ ((kk : Int) == (dv : Int)) = false) ∨ (sb = true ∧ kk = dv ∧ (er' == 0) = false) := by
              cases sb with
              | false => exact .inl rfl
              | true =>
                by_cases h : kk = dv
                · exact .inr (.inr ⟨rfl, h, by simpa using fun he => hc ⟨rfl, h, he⟩⟩)
                · exact .inr (.inl ⟨rfl, by simp; omega⟩)
            clear hel hc hlt hk
            rcases key with rfl | ⟨rfl, hkd⟩ | ⟨rfl, rfl, hke⟩
            all_goals
              go_upto_region 24 with fail
              go_quiet (fail)
              have HON := Lib.hid (HO.out.below (below_drewN (Below.refl _ _) nq)); have HXN := Lib.hid (HX.out.drewN nq); have HYN := Lib.hid (HY.out.drewN nq)
              generalize wr.drewN nq = wq at *
              clear cx cy ca cb HO HX HY
              go_wp2_with fail
              go_roundw
              case rel => exact ⟨kk + 1, by have := HLT.out; omega, by go_num, HON, HXN, HYN⟩
              case measure => have := HLT.out; simp [intOf]; omega
        · obtain rfl : kk = 8 := by omega
          clear hlt hk
          go_wp2_with fail
          refine (lives _ (HT.out.below HO.out.low)).mono ?_
          rintro e w16 ⟨rfl, hb⟩
          have HB16 := Lib.hid (HO.out.low.trans (hb.mono HO.out.low.size))
          clear hb
          go_wp2_with fail
          go_ret
          exact ⟨rfl, HB16.out⟩
theorem two_eq (a b : S) : sC a ++ sC b = twoC a b := by simp [sC, twoC]
set_option maxHeartbeats 2000000 in
theorem coreOne.walk (W : World) (op d n m imm : Int) (_hw : (Lit.int .i64 op).wf = true ∧ (Lit.int .i64 d).wf = true ∧ (Lit.int .i64 n).wf = true ∧ (Lit.int .i64 m).wf = true ∧ (Lit.int .i64 imm).wf = true) (a b : S) (hT : Tp.Tb W) :
    Calls Tryd.prog 7 #[ThRef.ins op d n m imm, .agg (sC a ++ sC b)] W fun e w' => e = .returned (.bool true) ∧ Below W.heap.size W w' := by
  rw [two_eq]
  by_cases hc : ThRef.canB op d n m imm = true
  · have ho := ThRef.can_op op d n m imm hc
    obtain ⟨k, rfl⟩ := Int.eq_ofNat_of_zero_le ho.1
    have hk : k < 21 := by omega
    have hv : ThRef.putV k d n m imm = .tuple #[.int .u16 (Tp.putI k d n m imm : Nat), .int .i64 0] := by unfold ThRef.putV; rw [hc]; rfl
    have hb := (Tp.head_put k hk d n m imm hc).2
    have ht := Tp.take_put k hk d n m imm hc
    obtain ⟨D, N, M, hq, hw⟩ := wi_of k hk ⟨d, n, m, imm⟩ hc
    have h1 : d = D := congrArg Tp.Nums.d hq
    have h2 : n = N := congrArg Tp.Nums.n hq
    have h3 : m = M := congrArg Tp.Nums.m hq
    subst h1 h2 h3
    exact oneYes W k D N M imm hw a b hT (Tp.putI k D N M imm) (by omega) hv ht
  · exact oneNo W op d n m imm a b hT (by simpa using hc)
end Go.Proofs.YtcigchpcffpemaaDoor.Co
