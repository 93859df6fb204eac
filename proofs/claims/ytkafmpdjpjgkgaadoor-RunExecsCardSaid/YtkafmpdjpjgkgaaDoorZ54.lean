/- DERIVED. CoBo, LkR in one text. By an AI agent. -/
import Derived.Test.YtkafmpdjpjgkgaaDoorZ48
import Derived.Test.YtkafmpdjpjgkgaaDoorZ49
import Derived.Test.YtkafmpdjpjgkgaaDoorZ50
import Derived.Test.YtkafmpdjpjgkgaaDoorZ51
import Derived.Test.YtkafmpdjpjgkgaaDoorZ52
import Derived.Test.YtkafmpdjpjgkgaaDoorZ53
import Derived.Test.YtkafmpdjpjgkgaaDoorZ32
import Derived.Test.YtkafmpdjpjgkgaaDoorZ43
import Derived.Test.YtkafmpdjpjgkgaaDoorZ44
import Derived.Test.YtkafmpdjpjgkgaaDoorZ45
import Derived.Test.YtkafmpdjpjgkgaaDoorZ46
import Derived.Test.YtkafmpdjpjgkgaaDoorZ47
import Derived.Test.YtkafmpdjpjgkgaaDoorZ41
/- DERIVED. The contract of the reference's Step, whole. By an AI agent. -/
namespace Go.Proofs.YtkafmpdjpjgkgaaDoor.Co
open Go.ChangeShapes Go.WideShapes Go.ChangeAt Go.RowKit WMath Word Ref Args Mm MmR
set_option linter.unusedVariables false
set_option linter.unusedSimpArgs false
theorem rdo (s : S) (n0 : Nat) (h : Hd) (m : St) (w : World) (p : RP n0 h m w) (hf : Nat) (hh : hf < 65536) (hfe : fetchV m (s.pc.toNat : Int) = ((hf : Int), 0)) (k D N M : Nat) (i : Int) (hw : Wi k D N M i) (htf : Tp.takeF 21 0 hf = (k, ⟨D, N, M, i⟩, 0)) (hk : k ≠ 20) :
    Calls Tryd.prog 31 #[sv s, ptr h.r] w (RpEnd n0 h (if (doS k D N M i s m).2.1 = 0 then ((doS k D N M i s m).1, false, 0, (doS k D N M i s m).2.2) else (s, false, (doS k D N M i s m).2.1, (doS k D N M i s m).2.2)) w) := by
  have hlt := hw.lt
  by_cases h12 : k < 12 ∨ 17 ≤ k
  · have e1 : (doS k D N M i s m).2 = (0, m) := by
      unfold doS
      by_cases h : k < 12
      · rw [if_pos h]
      · rw [if_neg h, if_neg (by omega), if_neg (by omega)]
    rw [show (doS k D N M i s m).2.1 = 0 from by rw [e1], if_pos rfl, show (doS k D N M i s m).2.2 = m from by rw [e1]]
    have hr : k = 0 ∨ k = 1 ∨ k = 2 ∨ k = 3 ∨ k = 4 ∨ k = 5 ∨ k = 6 ∨ k = 7 ∨ k = 8 ∨ k = 9 ∨ k = 10 ∨ k = 11 ∨ k = 17 ∨ k = 18 ∨ k = 19 := by omega
    clear h12 hk hlt e1
    rcases hr with rfl | rfl | rfl | rfl | rfl | rfl | rfl | rfl | rfl | rfl | rfl | rfl | rfl | rfl | rfl
    · exact rst0 s n0 h m w p hf hh hfe D N M i hw htf
    · exact rst1 s n0 h m w p hf hh hfe D N M i hw htf
    · exact rst2 s n0 h m w p hf hh hfe D N M i hw htf
    · exact rst3 s n0 h m w p hf hh hfe D N M i hw htf
    · exact rst4 s n0 h m w p hf hh hfe D N M i hw htf
    · exact rst5 s n0 h m w p hf hh hfe D N M i hw htf
    · exact rst6 s n0 h m w p hf hh hfe D N M i hw htf
    · exact rst7 s n0 h m w p hf hh hfe D N M i hw htf
    · exact rst8 s n0 h m w p hf hh hfe D N M i hw htf
    · exact rst9 s n0 h m w p hf hh hfe D N M i hw htf
    · exact rst10 s n0 h m w p hf hh hfe D N M i hw htf
    · exact rst11 s n0 h m w p hf hh hfe D N M i hw htf
    · exact rst17 s n0 h m w p hf hh hfe D N M i hw htf
    · cases hb : holdsB D s with
      | true => exact rst18t s n0 h m w p hf hh hfe D N M i hw htf hb
      | false => exact rst18f s n0 h m w p hf hh hfe D N M i hw htf hb
    · exact rst19 s n0 h m w p hf hh hfe D N M i hw htf
  · have hr : k = 12 ∨ k = 13 ∨ k = 14 ∨ k = 15 ∨ k = 16 := by omega
    clear h12 hk hlt
    rcases hr with rfl | rfl | rfl | rfl | rfl
    · exact rst12 s n0 h m w p hf hh hfe D N M i hw htf
    · exact rst13 s n0 h m w p hf hh hfe D N M i hw htf
    · exact rst14 s n0 h m w p hf hh hfe D N M i hw htf
    · exact rst15 s n0 h m w p hf hh hfe D N M i hw htf
    · exact rst16 s n0 h m w p hf hh hfe D N M i hw htf
theorem rstep (s : S) (n0 : Nat) (h : Hd) (m : St) (w : World) (p : RP n0 h m w) : Calls Tryd.prog 31 #[sv s, ptr h.r] w (RpEnd n0 h (stepV s m) w) := by
  have hb := fetch_in p.fit (s.pc.toNat : Int)
  unfold stepV
  rcases hfe : fetchV m (s.pc.toNat : Int) with ⟨hz, er⟩
  rw [hfe] at hb
  simp only at hb ⊢
  obtain ⟨hf, rfl⟩ := Int.eq_ofNat_of_zero_le hb.1
  by_cases he : er = 0
  · subst he
    rw [if_pos rfl]
    simp only [Int.toNat_natCast]
    rcases ht : Tp.takeF 21 0 hf with ⟨k, q, e2⟩
    simp only
    by_cases he2 : e2 = 0
    · subst he2
      rw [if_pos rfl]
      obtain ⟨_, h2, _, h4⟩ := Tp.takeF_ok hf 21 0 k q ht
      obtain ⟨D, N, M, hq, hw⟩ := wi_of k (by omega) q h2
      have hq2 : q = ⟨D, N, M, q.i⟩ := hq
      generalize q.i = i at *
      subst hq2
      simp only [Int.toNat_natCast]
      by_cases h20 : k = 20
      · rw [if_pos h20]
        subst h20
        exact rst20 s n0 h m w p hf (by omega) hfe D N M i hw ht
      · rw [if_neg h20]
        exact rdo s n0 h m w p hf (by omega) hfe k D N M i hw ht h20
    · rw [if_neg he2]
      exact rstepB s n0 h m w p hf (by omega) hfe k q e2 ht he2
  · rw [if_neg he]
    have h0 : (hf : Int) = 0 := by
      have : fetchV m (s.pc.toNat : Int) = ((hf : Int), er) := hfe
      unfold fetchV at this
      split at this
      · exact absurd (Prod.mk.inj this).2.symm he
      · exact (Prod.mk.inj this).1.symm
    rw [h0] at hfe
    exact rstepA s n0 h m w p er hfe he
end Go.Proofs.YtkafmpdjpjgkgaaDoor.Co
/- DERIVED. The contract of the reference's leak.Step, whole. By an AI agent. -/
namespace Go.Proofs.YtkafmpdjpjgkgaaDoor.Lk
open Go.ChangeShapes Go.WideShapes Go.ChangeAt Go.RowKit WMath Word Ref Args Mm MmR Co
set_option linter.unusedVariables false
set_option linter.unusedSimpArgs false
/-- A store that is no error is not at the port. -/
theorem no_port {s : S} {m : St} (hf : Fit m) (h : (stepV s m).2.2.1 = 0) {f k D N M : Nat} {i : Int} (hfe : fetchV m (s.pc.toNat : Int) = ((f : Int), 0)) (ht : Tp.takeF 21 0 f = (k, ⟨D, N, M, i⟩, 0)) (hk : k = 13 ∨ k = 15) : (addrV k N M (BitVec.ofInt 32 i) s == 1073741824#32) = false := by
  have e : stepV s m = if k = 20 then (s, true, 0, m) else if (doS k D N M i s m).2.1 = 0 then ((doS k D N M i s m).1, false, 0, (doS k D N M i s m).2.2) else (s, false, (doS k D N M i s m).2.1, (doS k D N M i s m).2.2) := by
    unfold stepV
    rw [hfe, if_pos rfl]
    simp only [Int.toNat_natCast]
    rw [ht, if_pos rfl]
    simp only [Int.toNat_natCast]
  have hd : (doS k D N M i s m).2.1 = storeE m ((addrV k N M (BitVec.ofInt 32 i) s).toNat : Int) := by
    unfold doS
    rw [if_neg (by omega), if_neg (by omega), if_pos hk]
  rw [e, if_neg (by omega), hd] at h
  have hs : storeE m ((addrV k N M (BitVec.ofInt 32 i) s).toNat : Int) = 0 := by
    by_cases h0 : storeE m ((addrV k N M (BitVec.ofInt 32 i) s).toNat : Int) = 0
    · exact h0
    · rw [if_neg h0] at h
      exact h
  by_cases hp : addrV k N M (BitVec.ofInt 32 i) s = 1073741824#32
  · rw [hp] at hs
    have := store_port m hf
    have h2 : storeE m 1073741824 = 0 := hs
    omega
  · simpa using hp
theorem rlstep (s : S) (n0 : Nat) (h : Hd) (m : St) (w : World) (p : RP n0 h m w) : Calls Tryd.prog 22 #[sv s, ptr h.r] w (RkEnd n0 h (leakV s m) w) := by
  by_cases he : (stepV s m).2.2.1 = 0
  · obtain ⟨f, k, D, N, M, i, hf, hfe, htf, hw, hlk⟩ := step_ok s m p.fit he
    have hl : leakV s m = ⟨(stepV s m).1, lkOf s m (stepV s m).1, (stepV s m).2.1, 0, (stepV s m).2.2.2⟩ := by unfold leakV; rw [if_pos he]
    have hc := stepV_C s m
    have hC := fun W p => rstep s n0 h m W p
    have hnp := fun hk => no_port p.fit he hfe htf hk
    rw [hl, hlk]
    rcases hq : stepV s m with ⟨x, st, er, m2⟩
    rw [hq] at hC he hc
    have he2 : er = 0 := he
    subst he2
    have hfe2 : fetchV m2 (s.pc.toNat : Int) = ((f : Int), 0) := by rw [fetchV_C hc, hfe]
    have hlt := hw.lt
    have hr : k = 0 ∨ k = 1 ∨ k = 2 ∨ k = 3 ∨ k = 4 ∨ k = 5 ∨ k = 6 ∨ k = 7 ∨ k = 8 ∨ k = 9 ∨ k = 10 ∨ k = 11 ∨ k = 12 ∨ k = 13 ∨ k = 14 ∨ k = 15 ∨ k = 16 ∨ k = 17 ∨ k = 18 ∨ k = 19 ∨ k = 20 := by omega
    clear hlt hlk hl hq hfe hc he
    rcases hr with rfl | rfl | rfl | rfl | rfl | rfl | rfl | rfl | rfl | rfl | rfl | rfl | rfl | rfl | rfl | rfl | rfl | rfl | rfl | rfl | rfl
    · exact rlk0 s x st n0 h m m2 w p hC f hf hfe2 D N M i hw htf
    · exact rlk1 s x st n0 h m m2 w p hC f hf hfe2 D N M i hw htf
    · exact rlk2 s x st n0 h m m2 w p hC f hf hfe2 2 D N M i hw htf (by decide)
    · exact rlk2 s x st n0 h m m2 w p hC f hf hfe2 3 D N M i hw htf (by decide)
    · exact rlk4 s x st n0 h m m2 w p hC f hf hfe2 4 D N M i hw htf (by decide)
    · exact rlk4 s x st n0 h m m2 w p hC f hf hfe2 5 D N M i hw htf (by decide)
    · exact rlk4 s x st n0 h m m2 w p hC f hf hfe2 6 D N M i hw htf (by decide)
    · exact rlk7 s x st n0 h m m2 w p hC f hf hfe2 D N M i hw htf
    · exact rlk8 s x st n0 h m m2 w p hC f hf hfe2 D N M i hw htf
    · exact rlk9 s x st n0 h m m2 w p hC f hf hfe2 D N M i hw htf
    · exact rlk10 s x st n0 h m m2 w p hC f hf hfe2 D N M i hw htf
    · by_cases h8 : i = 8
      · subst h8; exact rlk11_8 s x st n0 h m m2 w p hC f hf hfe2 D N M hw htf
      by_cases h10 : i = 10
      · subst h10; exact rlk11_10 s x st n0 h m m2 w p hC f hf hfe2 D N M hw htf
      by_cases h11 : i = 11
      · subst h11; exact rlk11_11 s x st n0 h m m2 w p hC f hf hfe2 D N M hw htf
      exact rlk11 s x st n0 h m m2 w p hC f hf hfe2 D N M i hw htf h8 h10 h11
    · exact rlk12 s x st n0 h m m2 w p hC f hf hfe2 D N M i hw htf
    · exact rlk13 s x st n0 h m m2 w p hC f hf hfe2 D N M i hw htf (hnp (.inl rfl))
    · exact rlk14 s x st n0 h m m2 w p hC f hf hfe2 D N M i hw htf
    · exact rlk15 s x st n0 h m m2 w p hC f hf hfe2 D N M i hw htf (hnp (.inr rfl))
    · exact rlk16 s x st n0 h m m2 w p hC f hf hfe2 D N M i hw htf
    · exact rlk17 s x st n0 h m m2 w p hC f hf hfe2 17 D N M i hw htf (by decide)
    · exact rlk17 s x st n0 h m m2 w p hC f hf hfe2 18 D N M i hw htf (by decide)
    · exact rlk17 s x st n0 h m m2 w p hC f hf hfe2 19 D N M i hw htf (by decide)
    · exact rlk17 s x st n0 h m m2 w p hC f hf hfe2 20 D N M i hw htf (by decide)
  · exact rlstepE s n0 h m w p (fun W p => rstep s n0 h m W p) he
end Go.Proofs.YtkafmpdjpjgkgaaDoor.Lk
