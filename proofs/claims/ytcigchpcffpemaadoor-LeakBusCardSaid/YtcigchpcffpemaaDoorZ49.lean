/- DERIVED. LkBm in one text. By an AI agent. -/
import Derived.Test.YtcigchpcffpemaaDoorZ21
/- DERIVED. What a load and a store of memory's words leak, plainly. By an AI agent. -/
namespace Go.Proofs.YtcigchpcffpemaaDoor.Lk
open Go.ChangeShapes Go.WideShapes Go.ChangeAt Go.RowKit WMath Word Args Mm Co
set_option linter.unusedVariables false
set_option linter.unusedSimpArgs false
def cw (z : Int) : Int := 24576 + 2048 * (z % 2) + 64 * (z / 2 % 4) + 8
theorem cw_in (z : Int) (h : 0 ≤ z) : 0 ≤ cw z ∧ cw z < 65536 := by unfold cw; omega
theorem take_s (I : Nat) (hI : I < 4) : Tp.takeF 21 0 (24584 + 64 * I) = (13, ⟨0, 1, 0, (I : Int)⟩, 0) := by
  have hr : I = 0 ∨ I = 1 ∨ I = 2 ∨ I = 3 := by omega
  rcases hr with rfl | rfl | rfl | rfl
  · exact (by kernel_rfl : Tp.takeF 21 0 24584 = (13, ⟨0, 1, 0, 0⟩, 0))
  · exact (by kernel_rfl : Tp.takeF 21 0 24648 = (13, ⟨0, 1, 0, 1⟩, 0))
  · exact (by kernel_rfl : Tp.takeF 21 0 24712 = (13, ⟨0, 1, 0, 2⟩, 0))
  · exact (by kernel_rfl : Tp.takeF 21 0 24776 = (13, ⟨0, 1, 0, 3⟩, 0))
theorem take_l (I : Nat) (hI : I < 4) : Tp.takeF 21 0 (26632 + 64 * I) = (12, ⟨0, 1, 0, (I : Int)⟩, 0) := by
  have hr : I = 0 ∨ I = 1 ∨ I = 2 ∨ I = 3 := by omega
  rcases hr with rfl | rfl | rfl | rfl
  · exact (by kernel_rfl : Tp.takeF 21 0 26632 = (12, ⟨0, 1, 0, 0⟩, 0))
  · exact (by kernel_rfl : Tp.takeF 21 0 26696 = (12, ⟨0, 1, 0, 1⟩, 0))
  · exact (by kernel_rfl : Tp.takeF 21 0 26760 = (12, ⟨0, 1, 0, 2⟩, 0))
  · exact (by kernel_rfl : Tp.takeF 21 0 26824 = (12, ⟨0, 1, 0, 3⟩, 0))
theorem adr_at (k I : Nat) (hk : k = 12 ∨ k = 13) (hI : I < 4) (s : S) (hr : s.r 1 = 536870912#32) : addrV k 1 0 (BitVec.ofInt 32 (I : Int)) s = BitVec.ofNat 32 (536870912 + 4 * I) := by
  have e : addrV k 1 0 (BitVec.ofInt 32 (I : Int)) s = s.r 1 + 4#32 * BitVec.ofInt 32 (I : Int) := by rcases hk with rfl | rfl <;> rfl
  rw [e, hr]
  have h4 : I = 0 ∨ I = 1 ∨ I = 2 ∨ I = 3 := by omega
  rcases h4 with rfl | rfl | rfl | rfl <;> rfl
theorem far_at (I : Nat) (hI : I < 4) : plcB ((BitVec.ofNat 32 (536870912 + 4 * I)).toNat : Int) 536870912 4 4 = true ∧ (far ((BitVec.ofNat 32 (536870912 + 4 * I)).toNat : Int) 536870912 / 4).toNat = I ∧ ((BitVec.ofNat 32 (536870912 + 4 * I)).toNat : Int) ≠ 1073741824 ∧ (BitVec.ofNat 32 (536870912 + 4 * I) == 1073741824#32) = false ∧ ((BitVec.ofNat 32 (536870912 + 4 * I)).toNat : Int) = 536870912 + 4 * (I : Int) := by
  have h4 : I = 0 ∨ I = 1 ∨ I = 2 ∨ I = 3 := by omega
  rcases h4 with rfl | rfl | rfl | rfl <;> decide +kernel
/-- What the law asks of one step. -/
structure Bs (s x : S) (l : L) (m m' : St) (I : Nat) : Prop where
  bus : l.bus = BitVec.ofInt 32 m.b
  me : l.me = true
  ad : (l.ad.toNat : Int) = 536870912 + 4 * (I : Int)
  rn : l.rn = false
  pc : x.pc = s.pc + 2#32
  r1 : x.r 1 = s.r 1
  c : m'.C = m.C
  w : m'.W.length = 4
  b : m'.b = (l.r.toNat : Int)
theorem stepV_of {s : S} {m : St} {f k D N M : Nat} {i : Int} (hfe : fetchV m (s.pc.toNat : Int) = ((f : Int), 0)) (ht : Tp.takeF 21 0 f = (k, ⟨D, N, M, i⟩, 0)) (hk : k ≠ 20) (he : (doS k D N M i s m).2.1 = 0) : stepV s m = ((doS k D N M i s m).1, false, 0, (doS k D N M i s m).2.2) := by
  unfold stepV
  rw [hfe, if_pos rfl]
  simp only [Int.toNat_natCast]
  rw [ht, if_pos rfl]
  simp only [Int.toNat_natCast]
  rw [if_neg hk, if_pos he]
theorem leakV_of {s : S} {m : St} {f k D N M : Nat} {i : Int} (hfe : fetchV m (s.pc.toNat : Int) = ((f : Int), 0)) (ht : Tp.takeF 21 0 f = (k, ⟨D, N, M, i⟩, 0)) (hk : k ≠ 20) (he : (doS k D N M i s m).2.1 = 0) : leakV s m = ⟨(doS k D N M i s m).1, lkV k D N M i f s (doS k D N M i s m).1 (BitVec.ofInt 32 m.b), false, 0, (doS k D N M i s m).2.2⟩ := by
  unfold leakV
  rw [stepV_of hfe ht hk he]
  simp only
  rw [if_pos trivial, lkOf_of hfe ht]
theorem step_store (s : S) (m : St) (I f : Nat) (hI : I < 4) (hfe : fetchV m (s.pc.toNat : Int) = ((f : Int), 0)) (ht : Tp.takeF 21 0 f = (13, ⟨0, 1, 0, (I : Int)⟩, 0)) (hr : s.r 1 = 536870912#32) (hw : m.W.length = 4) : ∃ x l m', leakV s m = ⟨x, l, false, 0, m'⟩ ∧ Bs s x l m m' I := by
  have hA := adr_at 13 I (.inr rfl) hI s hr
  obtain ⟨p1, p2, p3, p4, p5⟩ := far_at I hI
  have hd : doS 13 0 1 0 (I : Int) s m = (s.to (s.pc + 2#32), storeE m ((addrV 13 1 0 (BitVec.ofInt 32 (I : Int)) s).toNat : Int), storeS m ((addrV 13 1 0 (BitVec.ofInt 32 (I : Int)) s).toNat : Int) ((s.r 0).toNat : Int)) := rfl
  have hE : storeE m ((addrV 13 1 0 (BitVec.ofInt 32 (I : Int)) s).toNat : Int) = 0 := by rw [hA]; unfold storeE; rw [hw, if_pos p1]
  have hS : storeS m ((addrV 13 1 0 (BitVec.ofInt 32 (I : Int)) s).toNat : Int) ((s.r 0).toNat : Int) = { m with W := m.W.set I ((s.r 0).toNat : Int), b := ((s.r 0).toNat : Int) } := by rw [hA]; unfold storeS; rw [hw, if_pos p1, p2]
  rw [hE, hS] at hd
  have hL := leakV_of hfe ht (by decide) (by rw [hd])
  rw [hd] at hL
  refine ⟨_, _, _, hL, rfl, rfl, ?_, ?_, rfl, rfl, rfl, by simpa using hw, rfl⟩
  · show ((addrV 13 1 0 (BitVec.ofInt 32 (I : Int)) s).toNat : Int) = _
    rw [hA]; exact p5
  · show (addrV 13 1 0 (BitVec.ofInt 32 (I : Int)) s == 1073741824#32) = false
    rw [hA]; exact p4
theorem step_load (s : S) (m : St) (I f : Nat) (hI : I < 4) (hfe : fetchV m (s.pc.toNat : Int) = ((f : Int), 0)) (ht : Tp.takeF 21 0 f = (12, ⟨0, 1, 0, (I : Int)⟩, 0)) (hr : s.r 1 = 536870912#32) (hw : m.W.length = 4) (hf : Fit m) : ∃ x l m', leakV s m = ⟨x, l, false, 0, m'⟩ ∧ Bs s x l m m' I := by
  have hA := adr_at 12 I (.inl rfl) hI s hr
  obtain ⟨p1, p2, p3, p4, p5⟩ := far_at I hI
  have hd : doS 12 0 1 0 (I : Int) s m = ((s.to (s.pc + 2#32)).up 0 (BitVec.ofInt 32 (lookV m ((addrV 12 1 0 (BitVec.ofInt 32 (I : Int)) s).toNat : Int)).1), (lookV m ((addrV 12 1 0 (BitVec.ofInt 32 (I : Int)) s).toNat : Int)).2, loadS m ((addrV 12 1 0 (BitVec.ofInt 32 (I : Int)) s).toNat : Int)) := rfl
  have hb := hf.look ((addrV 12 1 0 (BitVec.ofInt 32 (I : Int)) s).toNat : Int)
  have hV : lookV m ((addrV 12 1 0 (BitVec.ofInt 32 (I : Int)) s).toNat : Int) = (m.W.getD I 0, 0) := by rw [hA]; unfold lookV; rw [if_neg p3, hw, if_pos p1, p2]
  have hS : loadS m ((addrV 12 1 0 (BitVec.ofInt 32 (I : Int)) s).toNat : Int) = { m with b := m.W.getD I 0 } := by unfold loadS; rw [hV, if_pos rfl, hA, if_neg p3]
  rw [hV] at hb
  rw [hV, hS] at hd
  have hL := leakV_of hfe ht (by decide) (by rw [hd])
  rw [hd] at hL
  refine ⟨_, _, _, hL, rfl, rfl, ?_, ?_, rfl, rfl, rfl, hw, ?_⟩
  · show ((addrV 12 1 0 (BitVec.ofInt 32 (I : Int)) s).toNat : Int) = _
    rw [hA]; exact p5
  · show (addrV 12 1 0 (BitVec.ofInt 32 (I : Int)) s == 1073741824#32) = false
    rw [hA]; exact p4
  · exact word_in (m.W.getD I 0) hb.1 hb.2
theorem bus_step (s : S) (m : St) (z : Int) (hz : 0 ≤ z) (hfe : fetchV m (s.pc.toNat : Int) = (cw z, 0)) (hr : s.r 1 = 536870912#32) (hw : m.W.length = 4) (hf : Fit m) : ∃ x l m', leakV s m = ⟨x, l, false, 0, m'⟩ ∧ Bs s x l m m' (z / 2 % 4).toNat := by
  obtain ⟨I, hI⟩ := Int.eq_ofNat_of_zero_le (show 0 ≤ z / 2 % 4 by omega)
  have hI4 : I < 4 := by omega
  rw [hI, Int.toNat_natCast]
  have hm : z % 2 = 0 ∨ z % 2 = 1 := by omega
  rcases hm with h0 | h0
  · have e : cw z = ((24584 + 64 * I : Nat) : Int) := by unfold cw; rw [h0, hI]; omega
    rw [e] at hfe
    exact step_store s m I _ hI4 hfe (take_s I hI4) hr hw
  · have e : cw z = ((26632 + 64 * I : Nat) : Int) := by unfold cw; rw [h0, hI]; omega
    rw [e] at hfe
    exact step_load s m I _ hI4 hfe (take_l I hI4) hr hw hf
theorem fetch_code (s : St) (a : Int) (i : Nat) (ha : a = 2 * i) (hi : i < 200000) : fetchV s a = if i < s.C.length then (s.C.getD i 0, 0) else (0, 50) := by
  have hf : far a 0 = 2 * i := by unfold far; omega
  unfold fetchV plcB
  rw [hf]
  have e1 : (2 * (i : Int)) % 2 = 0 := by omega
  have e2 : (2 * (i : Int)) / 2 = i := by omega
  rw [e1, e2]
  simp
theorem pc_next (i : Nat) (hi : i < 100000) : BitVec.ofNat 32 (2 * i) + 2#32 = BitVec.ofNat 32 (2 * (i + 1)) := by
  apply BitVec.eq_of_toNat_eq
  simp [BitVec.toNat_add]
  omega
theorem pc_at (i : Nat) (hi : i < 100000) : ((BitVec.ofNat 32 (2 * i)).toNat : Int) = 2 * i := by
  rw [BitVec.toNat_ofNat]; omega
end Go.Proofs.YtcigchpcffpemaaDoor.Lk
