/- DERIVED. CoAs in one text. By an AI agent. -/
import Derived.Test.YtcigchpcffpemaaDoorZ30
/- DERIVED. The walk of CoreAdds. By an AI agent. -/
namespace Go.Proofs.YtcigchpcffpemaaDoor.Co
open Go.ChangeShapes Go.WideShapes Go.ChangeAt Go.RowKit WMath Word Ref Args Mm
set_option linter.unusedVariables false
set_option linter.unusedSimpArgs false
def hA : Bool → Int
  | false => 6280
  | true => 6792
def mA (b : Bool) : St := ⟨[hA b], noughts 0, [], 0, 0⟩
theorem fitA (b : Bool) : Fit (mA b) := ⟨by cases b <;> decide, noughts_in 0, nofun, by cases b <;> decide, by cases b <;> decide, by cases b <;> decide, by cases b <;> decide, by cases b <;> decide⟩
def xA (s : S) : Bool → R3
  | false => sum3 (s.r 1) (s.r 2) false
  | true => sum3 (s.r 1) (~~~(s.r 2)) true
theorem stepAdd (s : S) (b : Bool) : ∃ x' : S, stepV (s.to 0#32) (mA b) = (x', false, 0, mA b) ∧ x'.r 0 = (xA s b).w ∧ x'.c = (xA s b).c ∧ x'.v = (xA s b).v ∧ x'.n = (xA s b).w.msb ∧ x'.z = ((xA s b).w == 0#32) := by
  have hf : fetchV (mA b) (((s.to 0#32).pc.toNat : Nat) : Int) = (hA b, 0) := by
    show fetchV (mA b) 0 = _
    cases b <;> decide +kernel
  cases b
  · have ht : Tp.takeF 21 0 (hA false).toNat = (7, ⟨0, 1, 2, 0⟩, 0) := by kernel_rfl
    have hd : doS 7 0 1 2 0 (s.to 0#32) (mA false) = (doCS 7 0 1 2 (BitVec.ofInt 32 0) (s.to 0#32), 0, mA false) := rfl
    have hs : doCS 7 0 1 2 (BitVec.ofInt 32 0) (s.to 0#32) = ((((s.to 0#32).to (nextV 7 0 (BitVec.ofInt 32 (BitVec.ofInt 32 0).toNat) (s.to 0#32))).fl (sum3 (s.r 1) (s.r 2) false).w).cv (sum3 (s.r 1) (s.r 2) false).c (sum3 (s.r 1) (s.r 2) false).v).up 0 (sum3 (s.r 1) (s.r 2) false).w := rfl
    refine ⟨doCS 7 0 1 2 (BitVec.ofInt 32 0) (s.to 0#32), ?_, ?_⟩
    · unfold stepV
      rw [hf]
      simp only [ht]
      exact (show (if (0 : Nat) = 0 then if (7 : Nat) = 20 then (s.to 0#32, true, 0, mA false) else if (doS 7 0 1 2 0 (s.to 0#32) (mA false)).2.1 = 0 then ((doS 7 0 1 2 0 (s.to 0#32) (mA false)).1, false, 0, (doS 7 0 1 2 0 (s.to 0#32) (mA false)).2.2) else (s.to 0#32, false, (doS 7 0 1 2 0 (s.to 0#32) (mA false)).2.1, (doS 7 0 1 2 0 (s.to 0#32) (mA false)).2.2) else (s.to 0#32, false, ((0 : Nat) : Int), mA false)) = _ from by rw [if_pos rfl, if_neg (by decide), hd, if_pos rfl])
    · rw [hs]; exact ⟨rfl, rfl, rfl, rfl, rfl⟩
  · have ht : Tp.takeF 21 0 (hA true).toNat = (8, ⟨0, 1, 2, 0⟩, 0) := by kernel_rfl
    have hd : doS 8 0 1 2 0 (s.to 0#32) (mA true) = (doCS 8 0 1 2 (BitVec.ofInt 32 0) (s.to 0#32), 0, mA true) := rfl
    have hs : doCS 8 0 1 2 (BitVec.ofInt 32 0) (s.to 0#32) = ((((s.to 0#32).to (nextV 8 0 (BitVec.ofInt 32 (BitVec.ofInt 32 0).toNat) (s.to 0#32))).fl (sum3 (s.r 1) (~~~(s.r 2)) true).w).cv (sum3 (s.r 1) (~~~(s.r 2)) true).c (sum3 (s.r 1) (~~~(s.r 2)) true).v).up 0 (sum3 (s.r 1) (~~~(s.r 2)) true).w := rfl
    refine ⟨doCS 8 0 1 2 (BitVec.ofInt 32 0) (s.to 0#32), ?_, ?_⟩
    · unfold stepV
      rw [hf]
      simp only [ht]
      exact (show (if (0 : Nat) = 0 then if (8 : Nat) = 20 then (s.to 0#32, true, 0, mA true) else if (doS 8 0 1 2 0 (s.to 0#32) (mA true)).2.1 = 0 then ((doS 8 0 1 2 0 (s.to 0#32) (mA true)).1, false, 0, (doS 8 0 1 2 0 (s.to 0#32) (mA true)).2.2) else (s.to 0#32, false, (doS 8 0 1 2 0 (s.to 0#32) (mA true)).2.1, (doS 8 0 1 2 0 (s.to 0#32) (mA true)).2.2) else (s.to 0#32, false, ((0 : Nat) : Int), mA true)) = _ from by rw [if_pos rfl, if_neg (by decide), hd, if_pos rfl])
    · rw [hs]; exact ⟨rfl, rfl, rfl, rfl, rfl⟩
/-- What Step gives of it, as the law holds it. -/
theorem stepA1 (s : S) (b : Bool) (h : Hd) (n0 : Nat) (w : World) (p : PP n0 h (mA b) w) (hT : Tp.Tb w) :
    Calls Tryd.prog 16 #[sv (s.to 0#32), ptr h.r] w
      fun e w' => ∃ (a1 a2 a3 a4 a5 a6 a7 pc : BitVec 32), e = .returned (.tuple #[.agg #[u (xA s b).w, u a1, u a2, u a3, u a4, u a5, u a6, u a7, u pc, .bool (xA s b).w.msb, .bool ((xA s b).w == 0#32), .bool (xA s b).c, .bool (xA s b).v], .bool false, .int .i64 0]) ∧ Upd h.X w w' := by
  obtain ⟨x', hst, h0, hc, hv, hn, hz⟩ := stepAdd s b
  refine (cstep (s.to 0#32) n0 h (mA b) w p hT).mono ?_
  rintro e w' ⟨he, _, hu⟩
  rw [hst] at he
  refine ⟨x'.r 1, x'.r 2, x'.r 3, x'.r 4, x'.r 5, x'.r 6, x'.r 7, x'.pc, ?_, hu⟩
  rw [he]
  simp only [sv, sC, h0, hc, hv, hn, hz]
theorem lies1 {W : World} {g : Nat} {z : Int} (h : W.cell? ⟨g, 0, none⟩ = some (.int .u16 z)) : Lies W (some ⟨g, 0, none⟩) ([z].map (.int .u16)) := fun j u hj => by
  cases j with
  | zero => simp at hj; subst hj; exact ⟨_, rfl, by rw [Args.add_plain]; exact h⟩
  | succ j => simp at hj
end Go.Proofs.YtcigchpcffpemaaDoor.Co
