/- DERIVED. CoOm in one text. By an AI agent. -/
import Derived.Test.YtcigchpcffpemaaDoorZ20
import Derived.Test.YtcigchpcffpemaaDoorZ16
/- DERIVED. What an instruction sets hangs on what it reads alone, plainly. By an AI agent. -/
namespace Go.Proofs.YtcigchpcffpemaaDoor.Co
open Go.ChangeShapes Go.WideShapes Go.ChangeAt Go.RowKit WMath Word Ref Args Mm
set_option linter.unusedVariables false
set_option linter.unusedSimpArgs false
/-- Two states that agree on what an instruction reads. -/
structure Ag (op D N M : Nat) (i : Int) (a b : S) : Prop where
  d : ThRef.rD op i = true → b.r D = a.r D
  n : ThRef.rN op = true → b.r N = a.r N
  m : ThRef.rM op = true → b.r M = a.r M
  pc : b.pc = a.pc
  fn : b.n = a.n
  fz : b.z = a.z
  fc : b.c = a.c
  fv : b.v = a.v
section
variable {op D N M : Nat} {i : Int} {a b : S}
theorem holds_ag (h : Ag op D N M i a b) (k : Int) : holdsB k b = holdsB k a := by
  unfold holdsB; rw [h.fn, h.fz, h.fc, h.fv]
theorem next_ag (h : Ag op D N M i a b) (imm : BitVec 32) : nextV op D imm b = nextV op D imm a := by
  unfold nextV; rw [holds_ag h, h.pc]
theorem alu_nd (d d' m : BitVec 32) (c v : Bool) (k : Nat) (hk : k = 9 ∨ k = 15) : alu3 k d m c v = alu3 k d' m c v := by
  rcases hk with rfl | rfl <;> simp [alu3]
theorem cmp_ag (hk : op < 12) (h0 : 0 ≤ i) (h1 : i < 256) (h : Ag op D N M i a b) : cmp3 op D N M (BitVec.ofInt 32 i) b = cmp3 op D N M (BitVec.ofInt 32 i) a := by
  have hr : op = 0 ∨ op = 1 ∨ op = 2 ∨ op = 3 ∨ op = 4 ∨ op = 5 ∨ op = 6 ∨ op = 7 ∨ op = 8 ∨ op = 9 ∨ op = 10 ∨ op = 11 := by omega
  have e := ofInt_small i h0 h1
  have hc := h.fc; have hv := h.fv; have hd := h.d; have hn := h.n; have hm := h.m
  clear h hk
  generalize BitVec.ofInt 32 i = imm at *
  rcases hr with rfl | rfl | rfl | rfl | rfl | rfl | rfl | rfl | rfl | rfl | rfl | rfl
  · show R3.mk imm b.c b.v = R3.mk imm a.c a.v
    rw [hc, hv]
  · have hd := hd rfl
    show sum3 (b.r D) (~~~imm) true = sum3 (a.r D) (~~~imm) true
    rw [hd]
  · have hd := hd rfl
    show sum3 (b.r D) imm false = sum3 (a.r D) imm false
    rw [hd]
  · have hd := hd rfl
    show sum3 (b.r D) (~~~imm) true = sum3 (a.r D) (~~~imm) true
    rw [hd]
  · have hm := hm rfl
    show sh3 0 (b.r M) imm.toNat b.c b.v = sh3 0 (a.r M) imm.toNat a.c a.v
    rw [hm, hc, hv]
  · have hm := hm rfl
    show sh3 1 (b.r M) imm.toNat b.c b.v = sh3 1 (a.r M) imm.toNat a.c a.v
    rw [hm, hc, hv]
  · have hm := hm rfl
    show sh3 2 (b.r M) imm.toNat b.c b.v = sh3 2 (a.r M) imm.toNat a.c a.v
    rw [hm, hc, hv]
  · have hn := hn rfl; have hm := hm rfl
    show sum3 (b.r N) (b.r M) false = sum3 (a.r N) (a.r M) false
    rw [hn, hm]
  · have hn := hn rfl; have hm := hm rfl
    show sum3 (b.r N) (~~~(b.r M)) true = sum3 (a.r N) (~~~(a.r M)) true
    rw [hn, hm]
  · have hn := hn rfl
    show sum3 (b.r N) imm false = sum3 (a.r N) imm false
    rw [hn]
  · have hn := hn rfl
    show sum3 (b.r N) (~~~imm) true = sum3 (a.r N) (~~~imm) true
    rw [hn]
  · have hm := hm rfl
    show alu3 imm.toNat (b.r D) (b.r M) b.c b.v = alu3 imm.toNat (a.r D) (a.r M) a.c a.v
    rw [hm, hc, hv]
    by_cases h9 : imm.toNat = 9 ∨ imm.toNat = 15
    · exact alu_nd _ _ _ _ _ _ h9
    · have hd := hd (by simp [ThRef.rD]; omega)
      rw [hd]
/-- What both come to. -/
structure OneR (op D : Nat) (i : Int) (a b : S) (x y : S) (e e' : Int) (W W' : List Int) : Prop where
  er : e' = e
  pc : y.pc = x.pc
  w : W' = W
  set : ThRef.setsB op i = true → e = 0 → y.r D = x.r D
  els : ∀ j, ¬ (ThRef.setsB op i = true ∧ j = D ∧ e = 0) → x.r j = a.r j ∧ y.r j = b.r j
theorem doCS_ag (hw : Wi op D N M i) (hk : op < 12) (h : Ag op D N M i a b) (W : List Int) : OneR op D i a b (doCS op D N M (BitVec.ofInt 32 i) a) (doCS op D N M (BitVec.ofInt 32 i) b) 0 0 W W := by
  have hi := hw.i0 (by omega) (by omega)
  have e := ofInt_small i hi.1 hi.2
  have hn := next_ag h (BitVec.ofInt 32 i)
  have hc := cmp_ag hk hi.1 hi.2 h
  unfold doCS
  rw [e, hn, hc]
  by_cases hs : ThRef.setsB op i = true
  · rw [if_pos hs, if_pos hs]
    refine ⟨rfl, rfl, rfl, fun _ _ => ?_, fun j hj => ?_⟩
    · show (if D = D then _ else _) = (if D = D then _ else _)
      rw [if_pos rfl, if_pos rfl]
    · have hjd : j ≠ D := fun e => hj ⟨hs, e, rfl⟩
      exact ⟨if_neg hjd, if_neg hjd⟩
  · rw [if_neg hs, if_neg hs]
    exact ⟨rfl, rfl, rfl, fun h => absurd h hs, fun j hj => ⟨rfl, rfl⟩⟩
theorem addr_ag (hk : 12 ≤ op ∧ op ≤ 16) (h : Ag op D N M i a b) (imm : BitVec 32) : addrV op N M imm b = addrV op N M imm a := by
  have hr : op = 12 ∨ op = 13 ∨ op = 14 ∨ op = 15 ∨ op = 16 := by omega
  have hp := h.pc; have hn := h.n; have hm := h.m
  clear h hk
  unfold addrV
  rcases hr with rfl | rfl | rfl | rfl | rfl
  · rw [hn rfl]; rfl
  · rw [hn rfl]; rfl
  · rw [hn rfl, hm rfl]; rfl
  · rw [hn rfl, hm rfl]; rfl
  · rw [hp]; rfl
theorem doS_ag (hw : Wi op D N M i) (hk : op < 20) (h : Ag op D N M i a b) (m : St) :
    OneR op D i a b (if (doS op D N M i a m).2.1 = 0 then (doS op D N M i a m).1 else a) (if (doS op D N M i b m).2.1 = 0 then (doS op D N M i b m).1 else b) (doS op D N M i a m).2.1 (doS op D N M i b m).2.1 (doS op D N M i a m).2.2.W (doS op D N M i b m).2.2.W := by
  have hn := next_ag h (BitVec.ofInt 32 i)
  by_cases h12 : op < 12
  · have e : ∀ s, doS op D N M i s m = (doCS op D N M (BitVec.ofInt 32 i) s, 0, m) := fun s => by unfold doS; rw [if_pos h12]
    rw [e a, e b]
    exact doCS_ag hw h12 h m.W
  by_cases h16 : op = 12 ∨ op = 14 ∨ op = 16
  · have hs : ThRef.setsB op i = true := by rcases h16 with rfl | rfl | rfl <;> rfl
    have ha := addr_ag (by omega) h (BitVec.ofInt 32 i)
    have e : ∀ s, doS op D N M i s m = ((s.to (nextV op D (BitVec.ofInt 32 i) s)).up D (BitVec.ofInt 32 (lookV m ((addrV op N M (BitVec.ofInt 32 i) s).toNat : Int)).1), (lookV m ((addrV op N M (BitVec.ofInt 32 i) s).toNat : Int)).2, loadS m ((addrV op N M (BitVec.ofInt 32 i) s).toNat : Int)) := fun s => by unfold doS; rw [if_neg h12, if_pos h16]
    rw [e a, e b, ha, hn]
    simp only
    by_cases he : (lookV m ((addrV op N M (BitVec.ofInt 32 i) a).toNat : Int)).2 = 0
    · rw [if_pos he, if_pos he]
      refine ⟨rfl, rfl, rfl, fun _ _ => ?_, fun j hj => ?_⟩
      · show (if D = D then _ else _) = (if D = D then _ else _)
        rw [if_pos rfl, if_pos rfl]
      · have hjd : j ≠ D := fun e => hj ⟨hs, e, he⟩
        exact ⟨if_neg hjd, if_neg hjd⟩
    · rw [if_neg he, if_neg he]
      exact ⟨rfl, h.pc, rfl, fun _ h => absurd h he, fun j hj => ⟨rfl, rfl⟩⟩
  by_cases h13 : op = 13 ∨ op = 15
  · have hs : ¬ ThRef.setsB op i = true := by rcases h13 with rfl | rfl <;> (intro h; cases h)
    have ha := addr_ag (by omega) h (BitVec.ofInt 32 i)
    have hd : b.r D = a.r D := h.d (by rcases h13 with rfl | rfl <;> rfl)
    have e : ∀ s, doS op D N M i s m = (s.to (nextV op D (BitVec.ofInt 32 i) s), storeE m ((addrV op N M (BitVec.ofInt 32 i) s).toNat : Int), storeS m ((addrV op N M (BitVec.ofInt 32 i) s).toNat : Int) ((s.r D).toNat : Int)) := fun s => by unfold doS; rw [if_neg h12, if_neg h16, if_pos h13]
    rw [e a, e b, ha, hn, hd]
    simp only
    by_cases he : storeE m ((addrV op N M (BitVec.ofInt 32 i) a).toNat : Int) = 0
    · rw [if_pos he, if_pos he]
      exact ⟨rfl, rfl, rfl, fun h => absurd h hs, fun j hj => ⟨rfl, rfl⟩⟩
    · rw [if_neg he, if_neg he]
      exact ⟨rfl, h.pc, rfl, fun h => absurd h hs, fun j hj => ⟨rfl, rfl⟩⟩
  · have hs : ¬ ThRef.setsB op i = true := by
      have : op = 17 ∨ op = 18 ∨ op = 19 := by omega
      rcases this with rfl | rfl | rfl <;> (intro h; cases h)
    have e : ∀ s, doS op D N M i s m = (s.to (nextV op D (BitVec.ofInt 32 i) s), 0, m) := fun s => by unfold doS; rw [if_neg h12, if_neg h16, if_neg h13]
    rw [e a, e b, hn]
    simp only [if_true]
    exact ⟨rfl, rfl, rfl, fun h => absurd h hs, fun j hj => ⟨rfl, rfl⟩⟩
theorem step_ag (hw : Wi op D N M i) (h : Ag op D N M i a b) (m : St) (hf : Nat) (hfe : fetchV m (a.pc.toNat : Int) = ((hf : Int), 0)) (htf : Tp.takeF 21 0 hf = (op, ⟨D, N, M, i⟩, 0)) :
    OneR op D i a b (stepV a m).1 (stepV b m).1 (stepV a m).2.2.1 (stepV b m).2.2.1 (stepV a m).2.2.2.W (stepV b m).2.2.2.W := by
  have e : ∀ s : S, s.pc = a.pc → stepV s m = if op = 20 then (s, true, 0, m) else if (doS op D N M i s m).2.1 = 0 then ((doS op D N M i s m).1, false, 0, (doS op D N M i s m).2.2) else (s, false, (doS op D N M i s m).2.1, (doS op D N M i s m).2.2) := fun s hs => by
    unfold stepV
    rw [hs, hfe, if_pos rfl]
    simp only [Int.toNat_natCast]
    rw [htf, if_pos rfl]
    simp only [Int.toNat_natCast]
  rw [e a rfl, e b h.pc]
  by_cases h20 : op = 20
  · rw [if_pos h20, if_pos h20]
    have hs : ¬ ThRef.setsB op i = true := by subst h20; intro h; cases h
    exact ⟨rfl, h.pc, rfl, fun h => absurd h hs, fun j hj => ⟨rfl, rfl⟩⟩
  · rw [if_neg h20, if_neg h20]
    have hd := doS_ag hw (by have := hw.lt; omega) h m
    have her := hd.er
    generalize doS op D N M i a m = x at *
    generalize doS op D N M i b m = y at *
    obtain ⟨x1, x2, x3⟩ := x
    obtain ⟨y1, y2, y3⟩ := y
    simp only at hd her ⊢
    subst her
    by_cases he : y2 = 0
    · rw [if_pos he, if_pos he] at hd ⊢
      subst he
      exact hd
    · rw [if_neg he, if_neg he] at hd ⊢
      exact hd
end
end Go.Proofs.YtcigchpcffpemaaDoor.Co
