/- DERIVED. CoBo in one text. By an AI agent. -/
import Derived.Test.YtcigchpcffpemaaDoorZ39
import Derived.Test.YtcigchpcffpemaaDoorZ40
import Derived.Test.YtcigchpcffpemaaDoorZ41
import Derived.Test.YtcigchpcffpemaaDoorZ42
import Derived.Test.YtcigchpcffpemaaDoorZ43
import Derived.Test.YtcigchpcffpemaaDoorZ44
import Derived.Test.YtcigchpcffpemaaDoorZ30
/- DERIVED. The contract of the reference's Step, whole. By an AI agent. -/
namespace Go.Proofs.YtcigchpcffpemaaDoor.Co
open Go.ChangeShapes Go.WideShapes Go.ChangeAt Go.RowKit WMath Word Ref Args Mm MmR
set_option linter.unusedVariables false
set_option linter.unusedSimpArgs false
theorem rdo (s : S) (n0 : Nat) (h : Hd) (m : St) (w : World) (p : RP n0 h m w) (hf : Nat) (hh : hf < 65536) (hfe : fetchV m (s.pc.toNat : Int) = ((hf : Int), 0)) (k D N M : Nat) (i : Int) (hw : Wi k D N M i) (htf : Tp.takeF 21 0 hf = (k, ⟨D, N, M, i⟩, 0)) (hk : k ≠ 20) :
    Calls Tryd.prog 39 #[sv s, ptr h.r] w (RpEnd n0 h (if (doS k D N M i s m).2.1 = 0 then ((doS k D N M i s m).1, false, 0, (doS k D N M i s m).2.2) else (s, false, (doS k D N M i s m).2.1, (doS k D N M i s m).2.2)) w) := by
  have hlt := hw.lt
  by_cases h12 : k < 12 ∨ 17 ≤ k
  · have e1 : (doS k D N M i s m).2 = (0, m) := by
      unfold doS
      by_cases h : k < 12
      · rw [if_pos h]
      · rw [if_neg h, if_neg (by omega), if_neg (by omega)]
    rw [show (doS k D N M i s m).2.1 = 0 from by rw [e1], if_pos rfl, show (doS k D N M i s m).2.2 = m from by rw [e1]]
    have hr : k = 0 ∨ k = 1 ∨ k = 2 ∨ k = 3 ∨ k = 4 ∨ k = 5 ∨ k = 6 ∨ k = 7 ∨ k = 8 ∨ k = 9 ∨ k = 10 ∨ k = 11 ∨ k = 17 ∨ k = 18 ∨ k = 19 := by omega
    clear h12 hk hlt e1
    rcases hr with rfl | rfl | rfl | rfl | rfl | rfl | rfl | rfl | rfl | rfl | rfl | rfl | rfl | rfl | rfl
    · exact rst0 s n0 h m w p hf hh hfe D N M i hw htf
    · exact rst1 s n0 h m w p hf hh hfe D N M i hw htf
    · exact rst2 s n0 h m w p hf hh hfe D N M i hw htf
    · exact rst3 s n0 h m w p hf hh hfe D N M i hw htf
    · exact rst4 s n0 h m w p hf hh hfe D N M i hw htf
    · exact rst5 s n0 h m w p hf hh hfe D N M i hw htf
    · exact rst6 s n0 h m w p hf hh hfe D N M i hw htf
    · exact rst7 s n0 h m w p hf hh hfe D N M i hw htf
    · exact rst8 s n0 h m w p hf hh hfe D N M i hw htf
    · exact rst9 s n0 h m w p hf hh hfe D N M i hw htf
    · exact rst10 s n0 h m w p hf hh hfe D N M i hw htf
    · exact rst11 s n0 h m w p hf hh hfe D N M i hw htf
    · exact rst17 s n0 h m w p hf hh hfe D N M i hw htf
    · cases hb : holdsB D s with
      | true => exact rst18t s n0 h m w p hf hh hfe D N M i hw htf hb
      | false => exact rst18f s n0 h m w p hf hh hfe D N M i hw htf hb
    · exact rst19 s n0 h m w p hf hh hfe D N M i hw htf
  · have hr : k = 12 ∨ k = 13 ∨ k = 14 ∨ k = 15 ∨ k = 16 := by omega
    clear h12 hk hlt
    rcases hr with rfl | rfl | rfl | rfl | rfl
    · exact rst12 s n0 h m w p hf hh hfe D N M i hw htf
    · exact rst13 s n0 h m w p hf hh hfe D N M i hw htf
    · exact rst14 s n0 h m w p hf hh hfe D N M i hw htf
    · exact rst15 s n0 h m w p hf hh hfe D N M i hw htf
    · exact rst16 s n0 h m w p hf hh hfe D N M i hw htf
theorem rstep (s : S) (n0 : Nat) (h : Hd) (m : St) (w : World) (p : RP n0 h m w) : Calls Tryd.prog 39 #[sv s, ptr h.r] w (RpEnd n0 h (stepV s m) w) := by
  have hb := fetch_in p.fit (s.pc.toNat : Int)
  unfold stepV
  rcases hfe : fetchV m (s.pc.toNat : Int) with ⟨hz, er⟩
  rw [hfe] at hb
  simp only at hb ⊢
  obtain ⟨hf, rfl⟩ := Int.eq_ofNat_of_zero_le hb.1
  by_cases he : er = 0
  · subst he
    rw [if_pos rfl]
    simp only [Int.toNat_natCast]
    rcases ht : Tp.takeF 21 0 hf with ⟨k, q, e2⟩
    simp only
    by_cases he2 : e2 = 0
    · subst he2
      rw [if_pos rfl]
      obtain ⟨_, h2, _, h4⟩ := Tp.takeF_ok hf 21 0 k q ht
      obtain ⟨D, N, M, hq, hw⟩ := wi_of k (by omega) q h2
      have hq2 : q = ⟨D, N, M, q.i⟩ := hq
      generalize q.i = i at *
      subst hq2
      simp only [Int.toNat_natCast]
      by_cases h20 : k = 20
      · rw [if_pos h20]
        subst h20
        exact rst20 s n0 h m w p hf (by omega) hfe D N M i hw ht
      · rw [if_neg h20]
        exact rdo s n0 h m w p hf (by omega) hfe k D N M i hw ht h20
    · rw [if_neg he2]
      exact rstepB s n0 h m w p hf (by omega) hfe k q e2 ht he2
  · rw [if_neg he]
    have h0 : (hf : Int) = 0 := by
      have : fetchV m (s.pc.toNat : Int) = ((hf : Int), er) := hfe
      unfold fetchV at this
      split at this
      · exact absurd (Prod.mk.inj this).2.symm he
      · exact (Prod.mk.inj this).1.symm
    rw [h0] at hfe
    exact rstepA s n0 h m w p er hfe he
end Go.Proofs.YtcigchpcffpemaaDoor.Co
