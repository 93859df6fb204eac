/- DERIVED. TxIns, TxShw in one text. By an AI agent. -/
import Derived.Test.YtnngnfajmncjpaaGreatDoorZ15
import Derived.Test.YtnngnfajmncjpaaGreatDoorZ17
import Derived.Laws.BytesString
import Derived.Lib.SplitLaws
/- DERIVED. Contracts of the shapes' split, and of the program's Show. By an AI agent. -/
namespace Go.Proofs.YtnngnfajmncjpaaGreatDoor.Tx
open Go.ChangeShapes Go.WideShapes Go.ChangeAt Go.RowKit Go.Lib Go.Sort
set_option linter.unusedVariables false
def shpT : ByteArray := ⟨#[109, 111, 118, 115, 32, 68, 44, 32, 73, 10, 99, 109, 112, 32, 68, 44, 32, 73, 10, 97, 100, 100, 115, 32, 68, 44, 32, 73, 10, 115, 117, 98, 115, 32, 68, 44, 32, 73, 10, 108, 115, 108, 115, 32, 68, 44, 32, 77, 44, 32, 73, 10, 108, 115, 114, 115, 32, 68, 44, 32, 77, 44, 32, 73, 10, 97, 115, 114, 115, 32, 68, 44, 32, 77, 44, 32, 73, 10, 97, 100, 100, 115, 32, 68, 44, 32, 78, 44, 32, 77, 10, 115, 117, 98, 115, 32, 68, 44, 32, 78, 44, 32, 77, 10, 97, 100, 100, 115, 32, 68, 44, 32, 78, 44, 32, 73, 10, 115, 117, 98, 115, 32, 68, 44, 32, 78, 44, 32, 73, 10, 65, 32, 68, 44, 32, 77, 10, 108, 100, 114, 32, 68, 44, 32, 91, 78, 44, 32, 87, 93, 10, 115, 116, 114, 32, 68, 44, 32, 91, 78, 44, 32, 87, 93, 10, 108, 100, 114, 32, 68, 44, 32, 91, 78, 44, 32, 77, 93, 10, 115, 116, 114, 32, 68, 44, 32, 91, 78, 44, 32, 77, 93, 10, 108, 100, 114, 32, 68, 44, 32, 91, 112, 99, 44, 32, 87, 93, 10, 98, 32, 72, 10, 98, 67, 32, 72, 10, 110, 111, 112, 10, 98, 107, 112, 116, 32, 73]⟩
/-- Pieces with a line feed between. -/
def jn : List Txt → Txt
  | [] => []
  | [w] => w
  | w :: r => w ++ 10 :: jn r
theorem index_hit : ∀ (l r : Txt), 10 ∉ l → index (l ++ 10 :: r) [10] = (l.length : Int)
  | [], r, _ => rfl
  | c :: l, r, h => by
    have hc : c ≠ 10 := fun e => h (by simp [e])
    have ih := index_hit l r fun e => h (by simp [e])
    have hp : ([10] : Txt).isPrefixOf (c :: (l ++ 10 :: r)) = false := by simp [List.isPrefixOf]; exact fun e => hc e.symm
    rw [List.cons_append, index, hp, ih, if_neg (by simp), if_neg (by simp), List.length_cons]
    omega
theorem splitK_jn : ∀ (ws : List Txt), ws ≠ [] → (∀ x ∈ ws, 10 ∉ x) → splitK [10] 0 (ws.length - 1) (jn ws) = ws
  | [], h, _ => absurd rfl h
  | [w], _, _ => rfl
  | w :: v :: r, _, h => by
    have hi := index_hit w (jn (v :: r)) (h w (by simp))
    have ih := splitK_jn (v :: r) (by simp) fun x hx => h x (by simp [hx])
    show splitK [10] 0 (r.length + 1) (w ++ 10 :: jn (v :: r)) = _
    rw [splitK, hi, if_neg (by simp)]
    have e : ((w.length : Int).toNat) = w.length := by simp
    rw [e]
    have e1 : (w ++ 10 :: jn (v :: r)).take (w.length + 0) = w := by simp
    have e2 : (w ++ 10 :: jn (v :: r)).drop (w.length + [(10 : UInt8)].length) = jn (v :: r) := by
      show (w ++ 10 :: jn (v :: r)).drop (w.length + 1) = _
      rw [List.drop_append, List.drop_of_length_le (by omega)]
      simp
    rw [e1, e2]
    exact congrArg _ ih
theorem back_map (l : List ByteArray) : (l.map fun x => x.data.toList).map (fun x => (⟨x.toArray⟩ : ByteArray)) = l := by
  induction l with
  | nil => rfl
  | cons x l ih => simp only [List.map_cons, ih]
theorem shp_jn : shpT.data.toList = jn shp := by decide +kernel
theorem shp_cnt : countB shpT ⟨#[10]⟩ = 20 := by
  show count shpT.data.toList [10] = 20
  rw [count_one]
  decide +kernel
theorem shp_split : splitB ⟨#[10]⟩ 0 20 shpT = shp.map fun l => ⟨l.toArray⟩ := by
  have h := splitB_data ⟨#[10]⟩ 0 20 shpT
  have h2 := splitK_jn shp (by decide) (by decide)
  rw [shp_jn] at h
  rw [← back_map (splitB _ _ _ _), h]
  exact congrArg _ h2
theorem splitC (S : ByteArray) (hS : S = shpT) (w : World) (hL : Lw w) :
    Calls Tryz.prog 29 #[.string S, .string ⟨#[10]⟩] w fun e w' => ∃ n, e = .returned (.slice (some ⟨n, 0, none⟩) 21 21) ∧ (∀ j, j < 21 → w'.cell? ⟨n, j, none⟩ = some (.string ⟨(shpN j).toArray⟩)) ∧ Below w.heap.size w w' := by
  subst hS
  obtain ⟨m, hm⟩ := hL.ml
  have h := Tryz.strings_Split shpT ⟨#[10]⟩ m w (by decide +kernel) hm (by decide)
  rw [shp_cnt, shp_split] at h
  refine h.mono ?_
  rintro e w' ⟨rfl, rfl⟩
  refine ⟨w.heap.size, rfl, fun j hj => ?_, (Below.refl _ _).alloc (Nat.le_refl _) _⟩
  rw [World.cell?_alloc_at _ _ _ _ rfl]
  have H : ∀ i : Fin 21, shp[i.val]? = some (shpN i.val) := by decide
  have hg := H ⟨j, hj⟩
  simp only at hg
  simp [hg]
/-! Which instructions there are, and their letters. -/
theorem okk_of (k : Nat) (hk : k < 21) (d n m i : Int) : ThRef.canB k d n m i = true ↔ Okk k ⟨d, n, m, i⟩ := by
  have hr : k = 0 ∨ k = 1 ∨ k = 2 ∨ k = 3 ∨ k = 4 ∨ k = 5 ∨ k = 6 ∨ k = 7 ∨ k = 8 ∨ k = 9 ∨ k = 10 ∨ k = 11 ∨ k = 12 ∨ k = 13 ∨ k = 14 ∨ k = 15 ∨ k = 16 ∨ k = 17 ∨ k = 18 ∨ k = 19 ∨ k = 20 := by omega
  have e : Okk k ⟨d, n, m, i⟩ ↔ ((0 ≤ d ∧ d ≤ dHi k) ∧ (0 ≤ n ∧ n ≤ nHi k) ∧ (0 ≤ m ∧ m ≤ mHi k) ∧ iLo[k]?.getD 0 ≤ i ∧ i ≤ iHi[k]?.getD 0) :=
    ⟨fun h => ⟨⟨h.d0, h.d1⟩, ⟨h.n0, h.n1⟩, ⟨h.m0, h.m1⟩, h.i0, h.i1⟩, fun ⟨⟨a, b⟩, ⟨c, e⟩, ⟨f, g⟩, x, y⟩ => ⟨hk, a, b, c, e, f, g, x, y⟩⟩
  rw [e]
  clear e hk
  rcases hr with rfl | rfl | rfl | rfl | rfl | rfl | rfl | rfl | rfl | rfl | rfl | rfl | rfl | rfl | rfl | rfl | rfl | rfl | rfl | rfl | rfl
  all_goals
    simp [ThRef.canB, ThRef.dB, ThRef.restB, ThRef.lowN, ThRef.lows, ThRef.highN, ThRef.highs, ThRef.hasB, ThRef.shapeN, ThRef.shapes, dHi, nHi, mHi, iLo, iHi]
    try omega
theorem asc_shp : ∀ k : Fin 21, ((shpN k.val).all fun c => decide (c.toNat < 128)) = true ∧ (shpN k.val).length ≤ 100 := by decide +kernel
theorem okk_wok {k : Nat} {s : Nm} (h : Okk k s) : ∀ c ∈ shpN k, Wok c s := by
  obtain ⟨⟨a1, a2⟩, ⟨b1, b2⟩, ⟨c1, c2⟩, e1, e2⟩ := h.bnd
  intro c hc
  refine ⟨by have := List.all_eq_true.1 (asc_shp ⟨k, h.hk⟩).1 c hc; simpa using this, fun p hp => ?_⟩
  have hA : ∀ j : Fin 21, (65 : UInt8) ∈ shpN j.val → iLo[j.val]?.getD 0 = 0 ∧ iHi[j.val]?.getD 0 = 15 := by decide
  have i0 := h.i0; have i1 := h.i1
  unfold plc at hp
  repeat' (split at hp)
  all_goals first
    | (cases hp; rw [if_pos rfl]; simp [Nm.get]; omega)
    | (rename_i h65; subst h65; cases hp; rw [if_neg (by decide)]; have hj := hA ⟨k, h.hk⟩ hc; simp only at hj; exact ⟨by show 0 ≤ s.i; omega, by show s.i < 16; omega⟩)
    | (cases hp; rw [if_neg (by decide)]; exact ⟨by show 0 ≤ s.d; omega, by show s.d < 14; omega⟩)
    | cases hp
end Go.Proofs.YtnngnfajmncjpaaGreatDoor.Tx
/- DERIVED. The contract of the program's Show. By an AI agent. -/
namespace Go.Proofs.YtnngnfajmncjpaaGreatDoor.Tx
open Go.ChangeShapes Go.WideShapes Go.ChangeAt Go.RowKit Go.Lib Go.Sort
set_option linter.unusedVariables false
abbrev ins (op d n m i : Int) : Value := .agg #[.int .i64 op, .int .i64 d, .int .i64 n, .int .i64 m, .int .i64 i]
theorem cells5 {op d n m i : Int} {w w1 : World} (hb : Below (w.alloc (.cells #[.int .i64 op, .int .i64 d, .int .i64 n, .int .i64 m, .int .i64 i] 50)).heap.size (w.alloc (.cells #[.int .i64 op, .int .i64 d, .int .i64 n, .int .i64 m, .int .i64 i] 50)) w1) :
    (w1.cell? ⟨w.heap.size, 0, none⟩ = some (.int .i64 op) ∧ w1.cell? ⟨w.heap.size, 1, none⟩ = some (.int .i64 d) ∧ w1.cell? ⟨w.heap.size, 2, none⟩ = some (.int .i64 n) ∧ w1.cell? ⟨w.heap.size, 3, none⟩ = some (.int .i64 m) ∧ w1.cell? ⟨w.heap.size, 4, none⟩ = some (.int .i64 i)) ∧ Below w.heap.size w w1 ∧ w.heap.size < w1.heap.size := by
  have h : ∀ j, w1.cell? ⟨w.heap.size, j, none⟩ = _ := fun j => (hb.cell (p := ⟨w.heap.size, j, none⟩) (by simp)).trans (World.cell?_alloc_at _ _ _ _ rfl)
  have hz := hb.size
  simp at hz
  exact ⟨⟨h 0, h 1, h 2, h 3, h 4⟩, ((Below.refl _ _).alloc (Nat.le_refl _) _).trans (hb.mono (by simp)), hz⟩
def shwV (op d n m i : Int) : Value := if ThRef.canB op d n m i then .tuple #[str (showL op.toNat ⟨d, n, m, i⟩), .bool true] else .tuple #[.string ⟨#[]⟩, .bool false]
set_option maxRecDepth 100000 in
set_option maxHeartbeats 4000000 in
theorem showP (op d n m i : Int) (w : World) (hL : Lw w) : Calls Tryz.prog 16 #[ins op d n m i] w fun e w' => e = .returned (shwV op d n m i) ∧ Below w.heap.size w w' := by
  have hcan := fun W hW => Tp.can op d n m i W hW
  by_cases hc : ThRef.canB op d n m i = true
  · have hv : shwV op d n m i = .tuple #[str (showL op.toNat ⟨d, n, m, i⟩), .bool true] := by unfold shwV; rw [hc]; rfl
    rw [hv]
    rw [hc] at hcan
    have ho : 0 ≤ op ∧ op ≤ 20 := by
      unfold ThRef.canB at hc
      simp at hc
      exact ⟨hc.1.1.1, hc.1.1.2⟩
    obtain ⟨k, rfl⟩ := Int.eq_ofNat_of_zero_le ho.1
    have hk : k < 21 := by omega
    have hok := (okk_of k hk d n m i).1 hc
    have hwr := fun W hW => writeC (shpN k) ⟨d, n, m, i⟩ k (okk_wok hok) (asc_shp ⟨k, hk⟩).2 W hW
    have hsp := fun S W hS hW => splitC S hS W hW
    have hlw : ∀ W, Below w.heap.size w W → Lw W := fun W hb => hL.below hb
    show Calls Tryz.prog 16 #[ins k d n m i] w fun e w' => e = .returned (.tuple #[.string ⟨(Tx.wr (shpN k) ⟨d, n, m, i⟩).toArray⟩, .bool true]) ∧ Below w.heap.size w w'
    generalize (Tx.wr (shpN k) ⟨d, n, m, i⟩) = OUT at *
    have hsp2 : ∀ S W, S = shpT → Lw W → Calls Tryz.prog 29 #[.string S, .string ⟨#[10]⟩] W fun e w' => ∃ n, e = .returned (.slice (some ⟨n, 0, none⟩) 21 21) ∧ w'.cell? ⟨n, k, none⟩ = some (.string ⟨(shpN k).toArray⟩) ∧ Below W.heap.size W w' := fun S W hS hW => (splitC S hS W hW).mono fun e w' ⟨n, h1, h2, h3⟩ => ⟨n, h1, h2 k hk, h3⟩
    clear hsp
    generalize (shpN k) = SH at *
    have HC := Lib.hid hcan; have HW := Lib.hid hwr; have HS := Lib.hid hsp2; have HLW := Lib.hid hlw
    clear hcan hwr hsp2 hlw hv hc ho hok
    go_enter Tryz.func16, Tryz.ntmps16
    go_wp2_with fail
    refine (HC.out _ (hL.tb.below ((Below.refl _ _).alloc (Nat.le_refl _) _))).mono ?_
    rintro e w1 ⟨rfl, hb1⟩
    obtain ⟨⟨q0, q1, q2, q3, q4⟩, hbw, hz⟩ := cells5 hb1
    have HB := Lib.hid hbw
    clear hb1 hbw hL
    go_wp2_with fail
    generalize hn0 : w.heap.size = n0 at *
    have HN0 := Lib.hid hn0
    clear hn0
    go_region_with
      ((first
        | (go_at_call 29; refine (HS.out _ _ (by rfl) (HLW.out _ HB.out.drew)).mono ?_; rintro e w3 ⟨nb, rfl, yx, hb3⟩; have y0 := (hb3.cell (p := ⟨n0, 0, none⟩) hz).trans q0; have y1 := (hb3.cell (p := ⟨n0, 1, none⟩) hz).trans q1; have y2 := (hb3.cell (p := ⟨n0, 2, none⟩) hz).trans q2; have y3 := (hb3.cell (p := ⟨n0, 3, none⟩) hz).trans q3; have y4 := (hb3.cell (p := ⟨n0, 4, none⟩) hz).trans q4; have z3 : n0 ≤ w3.heap.size := Nat.le_trans (Nat.le_of_lt hz) hb3.size; have HB3 := Lib.hid (HB.out.drew.trans (hb3.mono (Nat.le_of_lt hz))); clear hb3)
        | (go_at_call 28; refine (HW.out _ (HLW.out _ HB3.out)).mono ?_; rintro e w4 ⟨rfl, hb4⟩; have HB4 := Lib.hid (HB3.out.trans (hb4.mono z3)); clear hb4)))
    all_goals
      go_wp2_with fail
      go_ret2
      exact ⟨rfl, HN0.out ▸ HB4.out⟩
  · have hc2 : ThRef.canB op d n m i = false := by simpa using hc
    have hv : shwV op d n m i = .tuple #[.string ⟨#[]⟩, .bool false] := by unfold shwV; rw [hc2]; rfl
    rw [hv]
    rw [hc2] at hcan
    have HC := Lib.hid hcan; have HL := Lib.hid hL
    clear hcan hc hc2 hv hL
    go_enter Tryz.func16, Tryz.ntmps16
    go_wp2_with fail
    refine (HC.out _ (HL.out.tb.below ((Below.refl _ _).alloc (Nat.le_refl _) _))).mono ?_
    rintro e w1 ⟨rfl, hb1⟩
    obtain ⟨_, hbw, hz⟩ := cells5 hb1
    have HB := Lib.hid hbw
    clear hb1 hbw
    go_wp2_with fail
    go_ret2
    exact ⟨rfl, HB.out⟩
end Go.Proofs.YtnngnfajmncjpaaGreatDoor.Tx
