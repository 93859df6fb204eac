/- DERIVED. The contract of the program's Show. By an AI agent. -/
import Derived.Test.YthioplijcleioaaGreatDoorTxIns
namespace Go.Proofs.YthioplijcleioaaGreatDoor.Tx
open Go.ChangeShapes Go.WideShapes Go.ChangeAt Go.RowKit Go.Lib Go.Sort
set_option linter.unusedVariables false
abbrev ins (op d n m i : Int) : Value := .agg #[.int .i64 op, .int .i64 d, .int .i64 n, .int .i64 m, .int .i64 i]
theorem cells5 {op d n m i : Int} {w w1 : World} (hb : Below (w.alloc (.cells #[.int .i64 op, .int .i64 d, .int .i64 n, .int .i64 m, .int .i64 i] 51)).heap.size (w.alloc (.cells #[.int .i64 op, .int .i64 d, .int .i64 n, .int .i64 m, .int .i64 i] 51)) w1) :
    (w1.cell? ⟨w.heap.size, 0, none⟩ = some (.int .i64 op) ∧ w1.cell? ⟨w.heap.size, 1, none⟩ = some (.int .i64 d) ∧ w1.cell? ⟨w.heap.size, 2, none⟩ = some (.int .i64 n) ∧ w1.cell? ⟨w.heap.size, 3, none⟩ = some (.int .i64 m) ∧ w1.cell? ⟨w.heap.size, 4, none⟩ = some (.int .i64 i)) ∧ Below w.heap.size w w1 ∧ w.heap.size < w1.heap.size := by
  have h : ∀ j, w1.cell? ⟨w.heap.size, j, none⟩ = _ := fun j => (hb.cell (p := ⟨w.heap.size, j, none⟩) (by simp)).trans (World.cell?_alloc_at _ _ _ _ rfl)
  have hz := hb.size
  simp at hz
  exact ⟨⟨h 0, h 1, h 2, h 3, h 4⟩, ((Below.refl _ _).alloc (Nat.le_refl _) _).trans (hb.mono (by simp)), hz⟩
def shwV (op d n m i : Int) : Value := if ThRef.canB op d n m i then .tuple #[str (showL op.toNat ⟨d, n, m, i⟩), .bool true] else .tuple #[.string ⟨#[]⟩, .bool false]
set_option maxRecDepth 100000 in
set_option maxHeartbeats 4000000 in
theorem showP (op d n m i : Int) (w : World) (hL : Lw w) : Calls Tryz.prog 17 #[ins op d n m i] w fun e w' => e = .returned (shwV op d n m i) ∧ Below w.heap.size w w' := by
  have hcan := fun W hW => Tp.can op d n m i W hW
  by_cases hc : ThRef.canB op d n m i = true
  · have hv : shwV op d n m i = .tuple #[str (showL op.toNat ⟨d, n, m, i⟩), .bool true] := by unfold shwV; rw [hc]; rfl
    rw [hv]
    rw [hc] at hcan
    have ho : 0 ≤ op ∧ op ≤ 20 := by
      unfold ThRef.canB at hc
      simp at hc
      exact ⟨hc.1.1.1, hc.1.1.2⟩
    obtain ⟨k, rfl⟩ := Int.eq_ofNat_of_zero_le ho.1
    have hk : k < 21 := by omega
    have hok := (okk_of k hk d n m i).1 hc
    have hwr := fun W hW => writeC (shpN k) ⟨d, n, m, i⟩ k (okk_wok hok) (asc_shp ⟨k, hk⟩).2 W hW
    have hsp := fun S W hS hW => splitC S hS W hW
    have hlw : ∀ W, Below w.heap.size w W → Lw W := fun W hb => hL.below hb
    show Calls Tryz.prog 17 #[ins k d n m i] w fun e w' => e = .returned (.tuple #[.string ⟨(Tx.wr (shpN k) ⟨d, n, m, i⟩).toArray⟩, .bool true]) ∧ Below w.heap.size w w'
    generalize (Tx.wr (shpN k) ⟨d, n, m, i⟩) = OUT at *
    have hsp2 : ∀ S W, S = shpT → Lw W → Calls Tryz.prog 30 #[.string S, .string ⟨#[10]⟩] W fun e w' => ∃ n, e = .returned (.slice (some ⟨n, 0, none⟩) 21 21) ∧ w'.cell? ⟨n, k, none⟩ = some (.string ⟨(shpN k).toArray⟩) ∧ Below W.heap.size W w' := fun S W hS hW => (splitC S hS W hW).mono fun e w' ⟨n, h1, h2, h3⟩ => ⟨n, h1, h2 k hk, h3⟩
    clear hsp
    generalize (shpN k) = SH at *
    have HC := Lib.hid hcan; have HW := Lib.hid hwr; have HS := Lib.hid hsp2; have HLW := Lib.hid hlw
    clear hcan hwr hsp2 hlw hv hc ho hok
    go_enter Tryz.func17, Tryz.ntmps17
    go_wp2_with fail
    refine (HC.out _ (hL.tb.below ((Below.refl _ _).alloc (Nat.le_refl _) _))).mono ?_
    rintro e w1 ⟨rfl, hb1⟩
    obtain ⟨⟨q0, q1, q2, q3, q4⟩, hbw, hz⟩ := cells5 hb1
    have HB := Lib.hid hbw
    clear hb1 hbw hL
    go_wp2_with fail
    generalize hn0 : w.heap.size = n0 at *
    have HN0 := Lib.hid hn0
    clear hn0
    go_region_with
      ((first
        | (go_at_call 30; refine (HS.out _ _ (by rfl) (HLW.out _ HB.out.drew)).mono ?_; rintro e w3 ⟨nb, rfl, yx, hb3⟩; have y0 := (hb3.cell (p := ⟨n0, 0, none⟩) hz).trans q0; have y1 := (hb3.cell (p := ⟨n0, 1, none⟩) hz).trans q1; have y2 := (hb3.cell (p := ⟨n0, 2, none⟩) hz).trans q2; have y3 := (hb3.cell (p := ⟨n0, 3, none⟩) hz).trans q3; have y4 := (hb3.cell (p := ⟨n0, 4, none⟩) hz).trans q4; have z3 : n0 ≤ w3.heap.size := Nat.le_trans (Nat.le_of_lt hz) hb3.size; have HB3 := Lib.hid (HB.out.drew.trans (hb3.mono (Nat.le_of_lt hz))); clear hb3)
        | (go_at_call 29; refine (HW.out _ (HLW.out _ HB3.out)).mono ?_; rintro e w4 ⟨rfl, hb4⟩; have HB4 := Lib.hid (HB3.out.trans (hb4.mono z3)); clear hb4)))
    all_goals
      go_wp2_with fail
      go_ret2
      exact ⟨rfl, HN0.out ▸ HB4.out⟩
  · have hc2 : ThRef.canB op d n m i = false := by simpa using hc
    have hv : shwV op d n m i = .tuple #[.string ⟨#[]⟩, .bool false] := by unfold shwV; rw [hc2]; rfl
    rw [hv]
    rw [hc2] at hcan
    have HC := Lib.hid hcan; have HL := Lib.hid hL
    clear hcan hc hc2 hv hL
    go_enter Tryz.func17, Tryz.ntmps17
    go_wp2_with fail
    refine (HC.out _ (HL.out.tb.below ((Below.refl _ _).alloc (Nat.le_refl _) _))).mono ?_
    rintro e w1 ⟨rfl, hb1⟩
    obtain ⟨_, hbw, hz⟩ := cells5 hb1
    have HB := Lib.hid hbw
    clear hb1 hbw
    go_wp2_with fail
    go_ret2
    exact ⟨rfl, HB.out⟩
end Go.Proofs.YthioplijcleioaaGreatDoor.Tx
