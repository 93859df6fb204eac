/- DERIVED. The reference's Add; the walk of the law on sums. By an AI agent. -/
import Derived.Test.YtkipfeljpngkeaaDoorRef
namespace Go.Proofs.YtkipfeljpngkeaaDoor.Ref
open Go.ChangeShapes Go.WideShapes Go.ChangeAt Go.RowKit WMath Word
set_option linter.unusedVariables false
theorem sum_bit (a b : BitVec 32) (c : Bool) (k : Nat) (hk : k < 32) : (sum a b c).getLsbD k = (a.getLsbD k ^^ (b.getLsbD k ^^ BitVec.carry k a b c)) := by
  rw [← BitVec.getLsbD_add_add_bool hk]
  congr 1
  unfold sum cin
  cases c <;> rfl
theorem carry_end (a b : BitVec 32) (c : Bool) : BitVec.carry 32 a b c = carry a b c := by
  unfold BitVec.carry carry cin
  have := a.isLt; have := b.isLt
  cases c <;> simp <;> omega
set_option maxHeartbeats 3200000 in
theorem raddC (a b : BitVec 32) (c : Bool) (w : World) : Calls Tryd.prog 25 #[u a, u b, .bool c] w fun e w' => e = .returned (.tuple #[u (sum a b c), .bool (carry a b c), .bool (over a b c)]) ∧ Below w.heap.size w w' := by
  go_enter Tryd.func25, Tryd.ntmps25
  go_wp2_with fail
  refine (bitsC a _).mono ?_; rintro e w2 ⟨g2, cap2, rfl, hcap2, hmx2, hg2, hs2, hc2, hb2⟩
  go_wp2_with fail
  refine (bitsC b _).mono ?_; rintro e w3 ⟨g3, cap3, rfl, hcap3, hmx3, hg3, hs3, hc3, hb3⟩
  have C2 : ∀ j, j < 32 → w3.cell? ⟨g2, j, none⟩ = some (.bool (a.getLsbD j)) := fun j hj => by rw [hb3.cell (p := ⟨_, _, _⟩) hs2]; exact hc2 j hj
  have B3 : Below w.heap.size w w3 := hb2.trans (hb3.mono hb2.size)
  have S2 : g2 < w3.heap.size := by have := hb3.size; omega
  have HC2 := Lib.hid C2; have HC3 := Lib.hid hc3; have HB3 := Lib.hid B3
  clear C2 hc2 hc3 hb2 hb3 B3 hs2 hg2 hg3
  go_wp2
  go_loopw [2, 11, 12] (fun vc v vi wr => ∃ (k : Nat), k ≤ 32 ∧ vi = .int .i64 k ∧ vc = .bool (BitVec.carry k a b c) ∧ wr.ownsRow w3.heap.size 4 1 v k (bvals (bitsTo (sum a b c) k)) ∧ Below w3.heap.size w3 wr) (fun _ _ vi _ => 32 - (intOf vi).toNat)
  case atStart => exact ⟨0, by omega, rfl, by simp, World.ownsRow_lit w3 #[] 0 (Nat.le_refl _) (by decide) rfl, (Below.refl _ _).alloc (Nat.le_refl _) _⟩
  case round =>
    obtain ⟨k, hk, rfl, rfl, hown, hb⟩ := hrel
    have HB := Lib.hid hb
    have HO := Lib.hid hown
    clear hb hown
    by_cases hlt : k < 32
    · have q2 : wr.cell? ⟨g2, k, none⟩ = some (.bool (a.getLsbD k)) := by rw [HB.out.cell (p := ⟨_, _, _⟩) S2]; exact HC2.out k hlt
      have q3 : wr.cell? ⟨g3, k, none⟩ = some (.bool (b.getLsbD k)) := by rw [HB.out.cell (p := ⟨_, _, _⟩) hs3]; exact HC3.out k hlt
      have hst := sum_bit a b c k hlt
      have hcs := BitVec.carry_succ k a b c
      have hsn := bitsTo_snoc (sum a b c) k
      rw [hst] at hsn
      clear hst
      generalize a.getLsbD k = ak at q2 hsn hcs
      generalize b.getLsbD k = bk at q3 hsn hcs
      generalize BitVec.carry k a b c = ck at hsn hcs ⊢
      cases ak <;> cases bk <;> cases ck
      all_goals
        have HSN := Lib.hid hsn
        have HCS := Lib.hid hcs
        clear hsn hcs
        go_wp2_with (at_builtin; refine app_bool rfl _ _ rfl _ k (bitsTo (sum a b c) k) rfl HO.out HB.out (Nat.le_refl _) _ rfl (by omega) ?_; intro v' w' hown' hb')
        go_roundw
        case rel => exact ⟨k + 1, by omega, by go_num, by rw [HCS.out]; rfl, by rw [HSN.out]; exact hown', hb'⟩
        case measure => simp [intOf]; omega
    · have : k = 32 := by omega
      subst this
      rw [carry_end]
      have hown := HO.out
      rcases hown.2 with ⟨_, h0⟩ | ⟨g, cap, cur, rfl, hg, hgg, hcap, hmx, _, _⟩
      · omega
      · have hc := fun j (hj : j < 32) => World.ownsRow.cellAt hown j (by omega)
        have hw := fun n : Nat => (wordC (sum a b c) g cap (wr.drewN n) hcap (fun j hj => by show wr.cell? _ = _; rw [hc j hj]; simp [bvals, bitsTo, hj])).mono (fun e w' (h : e = .returned (u (sum a b c)) ∧ wr.drewN n = w') => show e = .returned (u (sum a b c)) ∧ w' = wr.drewN n from ⟨h.1, h.2.symm⟩)
        have q2 : wr.cell? ⟨g2, 31, none⟩ = some (.bool (a.getLsbD 31)) := by rw [HB.out.cell (p := ⟨_, _, _⟩) S2]; exact HC2.out 31 (by decide)
        have q3 : wr.cell? ⟨g3, 31, none⟩ = some (.bool (b.getLsbD 31)) := by rw [HB.out.cell (p := ⟨_, _, _⟩) hs3]; exact HC3.out 31 (by decide)
        have q4 : wr.cell? ⟨g, 31, none⟩ = some (.bool ((sum a b c).getLsbD 31)) := by rw [hc 31 (by decide)]; rfl
        have hov : over a b c = ((a.getLsbD 31 == b.getLsbD 31) && (sum a b c).getLsbD 31 != a.getLsbD 31) := by
          show ((a.msb ^^ (sum a b c).msb) && (b.msb ^^ (sum a b c).msb)) = _
          simp only [BitVec.msb_eq_getLsbD_last]
          show ((a.getLsbD 31 ^^ (sum a b c).getLsbD 31) && (b.getLsbD 31 ^^ (sum a b c).getLsbD 31)) = _
          cases a.getLsbD 31 <;> cases b.getLsbD 31 <;> cases (sum a b c).getLsbD 31 <;> rfl
        generalize a.getLsbD 31 = xa at q2 hov
        generalize b.getLsbD 31 = xb at q3 hov
        generalize (sum a b c).getLsbD 31 = xs at q4 hov
        have HW := Lib.hid hw
        clear hw hown hc HO
        cases xa <;> cases xb <;> cases xs
        all_goals
          have HOV := Lib.hid hov
          clear hov
          go_wp2_with fail
          go_quiet ((go_at_call 44; exact Calls.quiet_of_same (HW.out _)))
          go_wp2_with fail
          go_ret3
          exact ⟨by rw [HOV.out]; rfl, below_drewN (HB3.out.trans (HB.out.mono HB3.out.size)) _⟩
end Go.Proofs.YtkipfeljpngkeaaDoor.Ref
namespace Go.Proofs.YtkipfeljpngkeaaDoor
open Go.ChangeShapes Go.WideShapes Go.ChangeAt Go.RowKit WMath Word Ref
set_option linter.unusedVariables false
end Go.Proofs.YtkipfeljpngkeaaDoor
