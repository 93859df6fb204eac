/- DERIVED. The reference's Sel; the walk of the law on selections and on the number of ones. By an AI agent. -/
import Derived.Test.YtbkfhclmlpdmeaaDoorParity
namespace Go.Proofs.YtbkfhclmlpdmeaaDoor.Ref
open Go.ChangeShapes Go.WideShapes Go.ChangeAt Go.RowKit WMath Word
set_option linter.unusedVariables false
def selTo (m a b : BitVec 32) (k : Nat) : List Bool := bitsTo (selW m a b) k
theorem sel_bit (m a b : BitVec 32) (k : Nat) : (selW m a b).getLsbD k = if m.getLsbD k then a.getLsbD k else (b.getLsbD k && decide (k < 32)) := by
  simp only [selW, BitVec.getLsbD_or, BitVec.getLsbD_and, BitVec.getLsbD_not]
  cases m.getLsbD k <;> cases a.getLsbD k <;> cases b.getLsbD k <;> simp
set_option maxHeartbeats 1600000 in
theorem rselC (m a b : BitVec 32) (w : World) : Calls Tryd.prog 17 #[u m, u a, u b] w fun e w' => e = .returned (u (selW m a b)) ∧ Below w.heap.size w w' := by
  go_enter Tryd.func17, Tryd.ntmps17
  go_wp2_with fail
  refine (bitsC m _).mono ?_; rintro e w1 ⟨g1, cap1, rfl, hcap1, hmx1, hg1, hs1, hc1, hb1⟩
  go_wp2_with fail
  refine (bitsC a _).mono ?_; rintro e w2 ⟨g2, cap2, rfl, hcap2, hmx2, hg2, hs2, hc2, hb2⟩
  go_wp2_with fail
  refine (bitsC b _).mono ?_; rintro e w3 ⟨g3, cap3, rfl, hcap3, hmx3, hg3, hs3, hc3, hb3⟩
  have C1 : ∀ j, j < 32 → w3.cell? ⟨g1, j, none⟩ = some (.bool (m.getLsbD j)) := fun j hj => by rw [hb3.cell (p := ⟨_, _, _⟩) (Nat.lt_of_lt_of_le hs1 hb2.size), hb2.cell (p := ⟨_, _, _⟩) hs1]; exact hc1 j hj
  have C2 : ∀ j, j < 32 → w3.cell? ⟨g2, j, none⟩ = some (.bool (a.getLsbD j)) := fun j hj => by rw [hb3.cell (p := ⟨_, _, _⟩) hs2]; exact hc2 j hj
  have B3 : Below w.heap.size w w3 := (hb1.trans (hb2.mono hb1.size)).trans (hb3.mono (Nat.le_trans hb1.size hb2.size))
  have S1 : g1 < w3.heap.size := by have := hb2.size; have := hb3.size; omega
  have S2 : g2 < w3.heap.size := by have := hb3.size; omega
  have HC1 := Lib.hid C1; have HC2 := Lib.hid C2; have HC3 := Lib.hid hc3; have HB3 := Lib.hid B3
  clear C1 C2 hc1 hc2 hc3 hb1 hb2 hb3 B3 hs1 hs2 hg1 hg2 hg3
  go_wp2
  go_loopw [10, 11] (fun v vi wr => ∃ (k : Nat), k ≤ 32 ∧ vi = .int .i64 k ∧ wr.ownsRow w3.heap.size 4 1 v k (bvals (bitsTo (selW m a b) k)) ∧ Below w3.heap.size w3 wr) (fun _ vi _ => 32 - (intOf vi).toNat)
  case atStart => exact ⟨0, by omega, rfl, World.ownsRow_lit w3 #[] 0 (Nat.le_refl _) (by decide) rfl, (Below.refl _ _).alloc (Nat.le_refl _) _⟩
  case round =>
    obtain ⟨k, hk, rfl, hown, hb⟩ := hrel
    have HB := Lib.hid hb
    have HO := Lib.hid hown
    clear hb hown
    by_cases hlt : k < 32
    · have q1 : wr.cell? ⟨g1, k, none⟩ = some (.bool (m.getLsbD k)) := by rw [HB.out.cell (p := ⟨_, _, _⟩) S1]; exact HC1.out k hlt
      have q2 : wr.cell? ⟨g2, k, none⟩ = some (.bool (a.getLsbD k)) := by rw [HB.out.cell (p := ⟨_, _, _⟩) S2]; exact HC2.out k hlt
      have q3 : wr.cell? ⟨g3, k, none⟩ = some (.bool (b.getLsbD k)) := by rw [HB.out.cell (p := ⟨_, _, _⟩) hs3]; exact HC3.out k hlt
      have hst := sel_bit m a b k
      have hsn := bitsTo_snoc (selW m a b) k
      rw [hst] at hsn
      generalize a.getLsbD k = ak at q2 hsn
      generalize b.getLsbD k = bk at q3 hsn
      clear hst
      generalize m.getLsbD k = mk at q1 hsn
      have HSN : Hid (bitsTo (selW m a b) (k + 1) = bitsTo (selW m a b) k ++ [if mk = true then ak else bk && decide (k < 32)]) := Lib.hid hsn
      clear hsn
      cases mk
      · go_wp2_with (at_builtin; refine app_bool rfl _ _ rfl _ k (bitsTo (selW m a b) k) rfl HO.out HB.out (Nat.le_refl _) bk rfl (by omega) ?_; intro v' w' hown' hb')
        go_roundw
        case rel => exact ⟨k + 1, by omega, by go_num, by rw [HSN.out]; simpa [hlt] using hown', hb'⟩
        case measure => simp [intOf]; omega
      · go_wp2_with (at_builtin; refine app_bool rfl _ _ rfl _ k (bitsTo (selW m a b) k) rfl HO.out HB.out (Nat.le_refl _) ak rfl (by omega) ?_; intro v' w' hown' hb')
        go_roundw
        case rel => exact ⟨k + 1, by omega, by go_num, by rw [HSN.out]; simpa using hown', hb'⟩
        case measure => simp [intOf]; omega
    · go_wp2_with fail
      have : k = 32 := by omega
      subst this
      have hown := HO.out
      rcases hown.2 with ⟨_, h0⟩ | ⟨g, cap, cur, rfl, hg, hgg, hcap, hmx, _, _⟩
      · omega
      · have hc := fun j (hj : j < 32) => World.ownsRow.cellAt hown j (by omega)
        refine (wordC (selW m a b) g cap _ hcap (fun j hj => by rw [hc j hj]; simp [bvals, bitsTo, hj])).mono ?_; rintro e w' ⟨rfl, rfl⟩
        go_wp2
        go_ret
        exact ⟨rfl, HB3.out.trans (HB.out.mono HB3.out.size)⟩
end Go.Proofs.YtbkfhclmlpdmeaaDoor.Ref
namespace Go.Proofs.YtbkfhclmlpdmeaaDoor
open Go.ChangeShapes Go.WideShapes Go.ChangeAt Go.RowKit WMath Word Lives Ref
set_option linter.unusedVariables false
set_option maxHeartbeats 800000 in
theorem wordSelects.walk (a0 : Int) (w0 : (Lit.int .u32 a0).wf = true) (a1 : Int) (w1 : (Lit.int .u32 a1).wf = true) (a2 : Int) (w2 : (Lit.int .u32 a2).wf = true) (W : World) (hL : Lv W) :
    Calls Tryd.prog 5 #[.int .u32 a0, .int .u32 a1, .int .u32 a2] W fun e w' => e = .returned (.bool true) ∧ Below W.heap.size W w' := by
  obtain ⟨m, rfl⟩ := word_wf a0 w0
  obtain ⟨a, rfl⟩ := word_wf a1 w1
  obtain ⟨b, rfl⟩ := word_wf a2 w2
  have HL := Lib.hid hL
  clear hL w0 w1 w2
  have h1 := bd m; have h2 := bd a; have h3 := bd b
  have ex := b_xor a b
  have hp := parTo_xor a b 32
  have c1 := selC m a b; have c2 := rselC m a b
  have d1 := parC a; have d2 := rparC a; have d3 := parC b; have d4 := parC (a ^^^ b)
  rw [hp] at d4
  generalize a ^^^ b = z at ex d4
  generalize selW m a b = x at c1 c2
  generalize parTo a 32 = p at d1 d2 d4
  generalize parTo b 32 = q at d3 d4
  clear hp
  cases p <;> cases q
  all_goals
    have C1 := Lib.hid c1; have C2 := Lib.hid c2; have D1 := Lib.hid d1; have D2 := Lib.hid d2; have D3 := Lib.hid d3; have D4 := Lib.hid d4
    clear c1 c2 d1 d2 d3 d4
    go_enter Tryd.func5, Tryd.ntmps5
    go_wp2_with fail
    refine (C1.out _).mono ?_; rintro e w' ⟨rfl, rfl⟩
    go_wp2_with fail
    refine (C2.out _).mono ?_; rintro e w1 ⟨rfl, hb1⟩
    go_wp2_with fail
    refine (D1.out _).mono ?_; rintro e w2 ⟨rfl, n2, rfl⟩
    go_wp2_with fail
    refine (D2.out _).mono ?_; rintro e w3 ⟨rfl, hb3⟩
    go_wp2_with fail
    refine (D1.out _).mono ?_; rintro e w4 ⟨rfl, n4, rfl⟩
    go_wp2_with fail
    refine (D3.out _).mono ?_; rintro e w5 ⟨rfl, n5, rfl⟩
    go_wp2_with fail
    refine (D4.out _).mono ?_; rintro e w6 ⟨rfl, n6, rfl⟩
    go_wp2_with fail
    have hb1' : Below W.heap.size W (w3.drewN (n4 + n5 + n6)) := below_drewN ((below_drewN hb1 n2).trans (hb3.mono hb1.size)) _
    refine (lives _ (HL.out.below hb1')).mono ?_; rintro e w7 ⟨rfl, hb7⟩
    go_wp2_with fail
    go_ret
    exact ⟨rfl, hb1'.trans (hb7.mono hb1'.size)⟩
end Go.Proofs.YtbkfhclmlpdmeaaDoor
