/- DERIVED. PaSa in one text. By an AI agent. -/
import Derived.Test.YtkdpndoollbggaaDoorZ42
import Derived.StillTailTactics
/- DERIVED. Contracts of the reference's Names and Same, of what is the same but for places. By an AI agent. -/
namespace Go.Proofs.YtkdpndoollbggaaDoor.Pa
open Go Go.ChangeShapes Go.WideShapes Go.ChangeAt Go.RowKit Lx Args
set_option linter.unusedVariables false
set_option linter.unusedSimpArgs false
set_option maxRecDepth 100000 in
set_option maxHeartbeats 4000000 in
theorem rnames (A B : Option Addr) (c d : Nat) (ps : List Bs) (w : World) (hA : Lies w A (ps.map strV)) (hB : Lies w B (ps.map strV)) (hl : ps.length ≤ 100000) :
    Calls Tryd.prog 20 #[.slice A ps.length c, .slice B ps.length d] w fun e w' => e = .returned (.bool true) ∧ Below w.heap.size w w' := by
  have HA := Lib.hid hA; have HB := Lib.hid hB
  clear hA hB
  go_enter Tryd.func20, Tryd.ntmps20
  go_wp2_with fail
  go_loopw [5] (fun vi wr => ∃ k : Nat, k ≤ ps.length ∧ vi = .int .i64 k ∧ Hid (Below w.heap.size w wr)) (fun vi _ => ps.length - (intOf vi).toNat)
  case atStart => exact ⟨0, by omega, rfl, Lib.hid (Below.refl _ _)⟩
  case round =>
    obtain ⟨k, hk, rfl, HH⟩ := hrel
    by_cases hlt : k < ps.length
    · obtain ⟨p, hp⟩ : ∃ p, ps[k]? = some p := ⟨_, List.getElem?_eq_getElem hlt⟩
      have f1 : (ps.map strV)[k]? = some (.string ⟨p.toArray⟩) := by rw [List.getElem?_map, hp]; rfl
      obtain ⟨b, o, rfl, _, hc1⟩ := (HA.out.below HH.out).at_ f1
      obtain ⟨b', o', rfl, _, hc2⟩ := (HB.out.below HH.out).at_ f1
      have e1 := hc1 _ _ f1
      have e2 := hc2 _ _ f1
      clear hc1 hc2 f1 hp
      go_wp2_with fail
      go_quiet (fail)
      go_wp2_with fail
      go_roundw
      case rel => exact ⟨k + 1, by omega, by go_num, Lib.hid (below_drewN HH.out nq)⟩
      case measure => simp [intOf]; omega
    · go_wp2_with fail
      go_ret
      exact ⟨rfl, HH.out⟩
theorem skL_len : ∀ {l m : List Tr}, skL l = skL m → m.length = l.length
  | [], [], _ => rfl
  | [], _ :: _, h => by cases h
  | _ :: _, [], h => by cases h
  | x :: l, y :: m, h => by simp only [List.length_cons]; rw [skL_len (List.cons.inj h).2]
theorem skL_at : ∀ {l m : List Tr}, skL l = skL m → ∀ (i : Nat) (x : Tr), l[i]? = some x → ∃ y, m[i]? = some y ∧ sk x = sk y
  | [], _, _, i, x, h => by simp at h
  | _ :: _, [], h, _, _, _ => by cases h
  | x :: l, y :: m, h, 0, z, hz => by
    have : x = z := by simpa using hz
    subst this
    exact ⟨y, rfl, (List.cons.inj h).1⟩
  | x :: l, y :: m, h, i + 1, z, hz => by
    obtain ⟨y', h1, h2⟩ := skL_at (List.cons.inj h).2 i z (by simpa using hz)
    exact ⟨y', by simpa using h1, h2⟩
set_option maxRecDepth 100000 in
set_option maxHeartbeats 8000000 in
theorem rsame : ∀ (m : Nat) (x y : Tr), SizeOf.sizeOf x < m → sk x = sk y → ∀ (N N' : Nat → Prop) (w : World) (k a : Nat) (s : Bs) (n : Nat) (A : Option Addr) (la cA : Nat) (B : Option Addr) (lb cB : Nat) (k' a' : Nat) (s' : Bs) (n' : Nat) (A' : Option Addr) (la' cA' : Nat) (B' : Option Addr) (lb' cB' : Nat),
    TIn N w x (ndC k a s n A la cA B lb cB) → TIn N' w y (ndC k' a' s' n' A' la' cA' B' lb' cB') →
    Calls Tryd.prog 9 #[.agg #[.int .i64 (k : Int), .string ⟨s.toArray⟩, .int .u32 (n : Int), .int .i64 (a : Int), .slice A la cA, .slice B lb cB], .agg #[.int .i64 (k' : Int), .string ⟨s'.toArray⟩, .int .u32 (n' : Int), .int .i64 (a' : Int), .slice A' la' cA', .slice B' lb' cB'], .bool false] w
      fun e w' => e = .returned (.bool true) ∧ Below w.heap.size w w'
  | 0, x, y, h, _ => absurd h (Nat.not_lt_zero _)
  | m + 1, .mk k1 a1 s1 n1 ps l, .mk k2 a2 s2 n2 qs l2, hm, hs => fun N N' w k a s n A la cA B lb cB k' a' s' n' A' la' cA' B' lb' cB' hT hT' => by
    simp only [sk, Tr.mk.injEq, true_and] at hs
    obtain ⟨rfl, rfl, rfl, rfl, hs⟩ := hs
    obtain ⟨rfl, rfl, rfl, rfl, rfl, rfl, hl, hp, hB, css, hL, hS⟩ := tIn_parts hT
    obtain ⟨rfl, rfl, rfl, rfl, rfl, rfl, hl', _, hB', css', hL', hS'⟩ := tIn_parts hT'
    have hle := skL_len hs
    rw [hle]
    obtain ⟨w0, hw0⟩ : ∃ w0, (w.alloc (.cells #[.int .i64 (k' : Int), .string ⟨s'.toArray⟩, .int .u32 (n' : Int), .int .i64 (a : Int), .slice A l.length cA, .slice B ps.length cB] 27)).alloc (.cells #[.int .i64 (k' : Int), .string ⟨s'.toArray⟩, .int .u32 (n' : Int), .int .i64 (a' : Int), .slice A' l.length cA', .slice B' ps.length cB'] 27) = w0 := ⟨_, rfl⟩
    have hs0 : (w.alloc (.cells #[.int .i64 (k' : Int), .string ⟨s'.toArray⟩, .int .u32 (n' : Int), .int .i64 (a : Int), .slice A l.length cA, .slice B ps.length cB] 27)).heap.size = w.heap.size + 1 := by simp
    have hb0 : Below w.heap.size w w0 := by rw [← hw0]; exact ((Below.refl _ _).alloc (Nat.le_refl _) _).alloc (by simp) _
    have hX : Blk w0 w.heap.size 27 #[.int .i64 (k' : Int), .string ⟨s'.toArray⟩, .int .u32 (n' : Int), .int .i64 (a : Int), .slice A l.length cA, .slice B ps.length cB] := by rw [← hw0]; exact (Blk.new _ _ _).alloc _
    have hY : Blk w0 (w.heap.size + 1) 27 #[.int .i64 (k' : Int), .string ⟨s'.toArray⟩, .int .u32 (n' : Int), .int .i64 (a' : Int), .slice A' l.length cA', .slice B' ps.length cB'] := by rw [← hw0, ← hs0]; exact Blk.new _ _ _
    have HN := Lib.hid (rnames B B' cB cB' ps w0 (hB.below hb0) (hB'.below hb0) hp)
    have hu0 : Upd (fun _ => False) w w0 := Upd.of_below hb0 _
    have HL := Lib.hid (hL.below hb0); have HS := Lib.hid (hS.upd hu0 fun _ _ h => h); have HL' := Lib.hid (hL'.below hb0); have HS' := Lib.hid (hS'.upd hu0 fun _ _ h => h)
    have HM := Lib.hid hm; have HSK := Lib.hid hs
    have IH := Lib.hid (rsame m)
    have HX := Lib.hid hX; have HY := Lib.hid hY; have HB0 := Lib.hid hb0; have HW := Lib.hid hw0
    clear hT hT' hB hB' hL hS hL' hS' hm hs hle hw0 hb0 hX hY hs0 hu0 hl'
    go_enter Tryd.func9, Tryd.ntmps9
    go_wp2_with fail
    rw [HW.out]
    refine HN.out.mono ?_
    rintro e w1 ⟨rfl, hb1⟩
    have c4 : w1.cell? ⟨w.heap.size, 4, none⟩ = some (.slice A l.length cA) := (HX.out.below hb1 HX.out.lt).cell 4
    have d4 : w1.cell? ⟨w.heap.size + 1, 4, none⟩ = some (.slice A' l.length cA') := (HY.out.below hb1 HY.out.lt).cell 4
    have HB1 := Lib.hid hb1
    clear hb1
    go_wp2_with fail
    go_loopw [7] (fun vi wr => ∃ i : Nat, i ≤ l.length ∧ vi = .int .i64 (i : Int) ∧ Hid (Below w0.heap.size w0 wr)) (fun vi _ => l.length - (intOf vi).toNat)
    case atStart => exact ⟨0, by omega, rfl, HB1⟩
    case round =>
      clear c4 d4
      obtain ⟨i, hi, rfl, HH⟩ := hrel
      have c4 : wr.cell? ⟨w.heap.size, 4, none⟩ = some (.slice A l.length cA) := (HX.out.below HH.out HX.out.lt).cell 4
      have d4 : wr.cell? ⟨w.heap.size + 1, 4, none⟩ = some (.slice A' l.length cA') := (HY.out.below HH.out HY.out.lt).cell 4
      by_cases hlt : i < l.length
      · obtain ⟨x, hx⟩ : ∃ x, l[i]? = some x := ⟨_, List.getElem?_eq_getElem hlt⟩
        obtain ⟨y, hy, hxy⟩ := skL_at HSK.out i x hx
        have hu : Upd (fun _ => False) w0 wr := (Upd.of_below HH.out _)
        obtain ⟨b, o, k3, a3, s3, n3, A3, la3, cA3, B3, lb3, cB3, rfl, hTx, hb3, e0, e1, e2, e3, e4, e5⟩ := part_at (HL.out.below HH.out) (HS.out.upd hu fun _ _ h => h) hx
        obtain ⟨b', o', k4, a4, s4, n4, A4, la4, cA4, B4, lb4, cB4, rfl, hTy, hb4, g0, g1, g2, g3, g4, g5⟩ := part_at (HL'.out.below HH.out) (HS'.out.upd hu fun _ _ h => h) hy
        have hsx : SizeOf.sizeOf x < m := by have := size_mem (k := k') (a := a) (n := n') (s := s') (ps := ps) hx; have := HM.out; omega
        have HC := Lib.hid fun (w2 : World) (hb : Below wr.heap.size wr w2) => IH.out x y hsx hxy N N' w2 k3 a3 s3 n3 A3 la3 cA3 B3 lb3 cB3 k4 a4 s4 n4 A4 la4 cA4 B4 lb4 cB4 (hTx.upd (Upd.of_below hb fun _ => False) fun _ _ h => h) (hTy.upd (Upd.of_below hb fun _ => False) fun _ _ h => h)
        clear hu hTx hTy hx hy hxy hsx
        go_wp2_with fail
        go_still_tail 11, (by kernel_rfl)
        change wpList _ _ _ _ _ wr.drew
        have hdr : Below wr.heap.size wr wr.drew := below_drewN (Below.refl _ _) 1
        obtain ⟨w2, hw2⟩ : ∃ w2, wr.drew = w2 := ⟨_, rfl⟩
        rw [hw2] at hdr ⊢
        have HC2 := Lib.hid (HC.out w2 hdr)
        have HB2 := Lib.hid (HH.out.trans (hdr.mono HH.out.size))
        clear hw2 hdr HC e0 e1 e2 e3 e4 e5 g0 g1 g2 g3 g4 g5
        go_wp2_with fail
        refine HC2.out.mono ?_
        rintro e w3 ⟨rfl, hb5⟩
        have HB3 := Lib.hid (HB2.out.trans (hb5.mono HB2.out.size))
        clear hb5
        go_wp2_with fail
        go_roundw
        case rel => exact ⟨i + 1, by omega, by go_num, HB3⟩
        case measure => simp [intOf]; omega
      · go_wp2_with fail
        go_ret
        exact ⟨rfl, HB0.out.trans (HH.out.mono HB0.out.size)⟩
end Go.Proofs.YtkdpndoollbggaaDoor.Pa
