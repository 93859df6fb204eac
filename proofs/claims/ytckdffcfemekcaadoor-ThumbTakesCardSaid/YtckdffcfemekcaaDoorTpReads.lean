/- DERIVED. The contracts of the program's sets, Writes and Reads. By an AI agent. -/
import Derived.Test.YtckdffcfemekcaaDoorTpRise
namespace Go.Proofs.YtckdffcfemekcaaDoor.Tp
open Go.ChangeShapes Go.WideShapes Go.ChangeAt Go.RowKit Go.Sort ThRef
set_option linter.unusedVariables false
/-- An instruction's block in a world that came behind. -/
theorem insCells {op d n m imm : Int} {w w1 : World} (hb : Below (w.alloc (.cells #[.int .i64 op, .int .i64 d, .int .i64 n, .int .i64 m, .int .i64 imm] 23)).heap.size (w.alloc (.cells #[.int .i64 op, .int .i64 d, .int .i64 n, .int .i64 m, .int .i64 imm] 23)) w1) :
    (w1.cell? ⟨w.heap.size, 0, none⟩ = some (.int .i64 op) ∧ w1.cell? ⟨w.heap.size, 1, none⟩ = some (.int .i64 d) ∧ w1.cell? ⟨w.heap.size, 2, none⟩ = some (.int .i64 n) ∧ w1.cell? ⟨w.heap.size, 3, none⟩ = some (.int .i64 m) ∧ w1.cell? ⟨w.heap.size, 4, none⟩ = some (.int .i64 imm)) ∧ Below w.heap.size w w1 ∧ w.heap.size < w1.heap.size := by
  have h : ∀ j, w1.cell? ⟨w.heap.size, j, none⟩ = _ := fun j => (hb.cell (p := ⟨w.heap.size, j, none⟩) (by simp)).trans (World.cell?_alloc_at _ _ _ _ rfl)
  have hz := hb.size
  simp at hz
  exact ⟨⟨h 0, h 1, h 2, h 3, h 4⟩, ((Below.refl _ _).alloc (Nat.le_refl _) _).trans (hb.mono (by simp)), hz⟩
theorem holds_arr (w : World) (zs : List Int) : Sort.Holds (Value.int .i64) (w.alloc (.cells (zs.map (Value.int .i64)).toArray 3)) w.heap.size 0 zs.toArray := fun j hj => by
  rw [Nat.zero_add, World.cell?_alloc_at _ _ _ _ rfl, World.frozen?_alloc_at _ _ _ _ rfl]
  have : j < zs.length := by simpa using hj
  simp [this]
set_option maxHeartbeats 8000000 in
theorem sets (op d n m imm : Int) (h0 : 0 ≤ op) (h20 : op ≤ 20) (w : World) : Calls Tryd.prog 27 #[ins op d n m imm] w fun e w' => e = .returned (.bool (setsB op imm)) ∧ Below w.heap.size w w' := by
  have hr : op = 0 ∨ op = 1 ∨ op = 2 ∨ op = 3 ∨ op = 4 ∨ op = 5 ∨ op = 6 ∨ op = 7 ∨ op = 8 ∨ op = 9 ∨ op = 10 ∨ op = 11 ∨ op = 12 ∨ op = 13 ∨ op = 14 ∨ op = 15 ∨ op = 16 ∨ op = 17 ∨ op = 18 ∨ op = 19 ∨ op = 20 := by omega
  clear h0 h20
  rcases hr with rfl | rfl | rfl | rfl | rfl | rfl | rfl | rfl | rfl | rfl | rfl | rfl | rfl | rfl | rfl | rfl | rfl | rfl | rfl | rfl | rfl
  · go_enter Tryd.func27, Tryd.ntmps27
    go_wp2
    go_ret
    exact ⟨rfl, (Below.refl _ _).alloc (Nat.le_refl _) _⟩
  · go_enter Tryd.func27, Tryd.ntmps27
    go_wp2
    go_ret
    exact ⟨rfl, (Below.refl _ _).alloc (Nat.le_refl _) _⟩
  · go_enter Tryd.func27, Tryd.ntmps27
    go_wp2
    go_ret
    exact ⟨rfl, (Below.refl _ _).alloc (Nat.le_refl _) _⟩
  · go_enter Tryd.func27, Tryd.ntmps27
    go_wp2
    go_ret
    exact ⟨rfl, (Below.refl _ _).alloc (Nat.le_refl _) _⟩
  · go_enter Tryd.func27, Tryd.ntmps27
    go_wp2
    go_ret
    exact ⟨rfl, (Below.refl _ _).alloc (Nat.le_refl _) _⟩
  · go_enter Tryd.func27, Tryd.ntmps27
    go_wp2
    go_ret
    exact ⟨rfl, (Below.refl _ _).alloc (Nat.le_refl _) _⟩
  · go_enter Tryd.func27, Tryd.ntmps27
    go_wp2
    go_ret
    exact ⟨rfl, (Below.refl _ _).alloc (Nat.le_refl _) _⟩
  · go_enter Tryd.func27, Tryd.ntmps27
    go_wp2
    go_ret
    exact ⟨rfl, (Below.refl _ _).alloc (Nat.le_refl _) _⟩
  · go_enter Tryd.func27, Tryd.ntmps27
    go_wp2
    go_ret
    exact ⟨rfl, (Below.refl _ _).alloc (Nat.le_refl _) _⟩
  · go_enter Tryd.func27, Tryd.ntmps27
    go_wp2
    go_ret
    exact ⟨rfl, (Below.refl _ _).alloc (Nat.le_refl _) _⟩
  · go_enter Tryd.func27, Tryd.ntmps27
    go_wp2
    go_ret
    exact ⟨rfl, (Below.refl _ _).alloc (Nat.le_refl _) _⟩
  · by_cases i8 : imm = 8
    · subst i8
      go_enter Tryd.func27, Tryd.ntmps27
      go_wp2
      go_ret
      exact ⟨rfl, (Below.refl _ _).alloc (Nat.le_refl _) _⟩
    by_cases i10 : imm = 10
    · subst i10
      go_enter Tryd.func27, Tryd.ntmps27
      go_wp2
      go_ret
      exact ⟨rfl, (Below.refl _ _).alloc (Nat.le_refl _) _⟩
    by_cases i11 : imm = 11
    · subst i11
      go_enter Tryd.func27, Tryd.ntmps27
      go_wp2
      go_ret
      exact ⟨rfl, (Below.refl _ _).alloc (Nat.le_refl _) _⟩
    have e8 : (imm != 8) = true := by simp [i8]
    have e10 : (imm != 10) = true := by simp [i10]
    have e11 : (imm != 11) = true := by simp [i11]
    have hs : setsB 11 imm = true := by simp [setsB, i8, i10, i11]
    have HS := Lib.hid hs
    clear i8 i10 i11 hs
    go_enter Tryd.func27, Tryd.ntmps27
    go_wp2
    go_ret
    exact ⟨by rw [HS.out]; rfl, (Below.refl _ _).alloc (Nat.le_refl _) _⟩
  · go_enter Tryd.func27, Tryd.ntmps27
    go_wp2
    go_ret
    exact ⟨rfl, (Below.refl _ _).alloc (Nat.le_refl _) _⟩
  · go_enter Tryd.func27, Tryd.ntmps27
    go_wp2
    go_ret
    exact ⟨rfl, (Below.refl _ _).alloc (Nat.le_refl _) _⟩
  · go_enter Tryd.func27, Tryd.ntmps27
    go_wp2
    go_ret
    exact ⟨rfl, (Below.refl _ _).alloc (Nat.le_refl _) _⟩
  · go_enter Tryd.func27, Tryd.ntmps27
    go_wp2
    go_ret
    exact ⟨rfl, (Below.refl _ _).alloc (Nat.le_refl _) _⟩
  · go_enter Tryd.func27, Tryd.ntmps27
    go_wp2
    go_ret
    exact ⟨rfl, (Below.refl _ _).alloc (Nat.le_refl _) _⟩
  · go_enter Tryd.func27, Tryd.ntmps27
    go_wp2
    go_ret
    exact ⟨rfl, (Below.refl _ _).alloc (Nat.le_refl _) _⟩
  · go_enter Tryd.func27, Tryd.ntmps27
    go_wp2
    go_ret
    exact ⟨rfl, (Below.refl _ _).alloc (Nat.le_refl _) _⟩
  · go_enter Tryd.func27, Tryd.ntmps27
    go_wp2
    go_ret
    exact ⟨rfl, (Below.refl _ _).alloc (Nat.le_refl _) _⟩
  · go_enter Tryd.func27, Tryd.ntmps27
    go_wp2
    go_ret
    exact ⟨rfl, (Below.refl _ _).alloc (Nat.le_refl _) _⟩
set_option maxHeartbeats 4000000 in
theorem writes (op d n m imm : Int) (w : World) (hT : Tb w) : Calls Tryd.prog 15 #[ins op d n m imm] w fun e w' => e = .returned (wrV op d n m imm) ∧ Below w.heap.size w w' := by
  have hcan := fun W h => can op d n m imm W h
  have ho := can_op op d n m imm
  have hv : wrV op d n m imm = _ := rfl
  conv at hv => rhs; unfold wrV
  have HT := Lib.hid hT
  clear hT
  generalize canB op d n m imm = cb at hcan ho hv
  have HC := Lib.hid hcan; have HV := Lib.hid hv
  clear hcan hv
  cases cb
  · clear ho
    go_enter Tryd.func15, Tryd.ntmps15
    go_wp2_with fail
    refine (HC.out _ (HT.out.below ((Below.refl _ _).alloc (Nat.le_refl _) _))).mono ?_
    rintro e w1 ⟨rfl, hb1⟩
    go_wp2_with fail
    go_ret2
    exact ⟨by rw [HV.out]; rfl, ((Below.refl _ _).alloc (Nat.le_refl _) _).trans (hb1.mono (by simp))⟩
  · have hst := sets op d n m imm (ho rfl).1 (ho rfl).2
    generalize setsB op imm = sb at hst HV
    have HS := Lib.hid hst
    clear ho hst
    go_enter Tryd.func15, Tryd.ntmps15
    go_wp2_with fail
    refine (HC.out _ (HT.out.below ((Below.refl _ _).alloc (Nat.le_refl _) _))).mono ?_
    rintro e w1 ⟨rfl, hb1⟩
    obtain ⟨⟨q0, q1, q2, q3, q4⟩, hbw, hz⟩ := insCells hb1
    have HB := Lib.hid hbw
    clear hb1 hbw
    go_wp2_with fail
    refine (HS.out _).mono ?_
    rintro e w2 ⟨rfl, hb2⟩
    have p1 := (hb2.cell (p := ⟨w.heap.size, 1, none⟩) hz).trans q1
    have HB2 := Lib.hid (HB.out.trans (hb2.mono HB.out.size))
    clear q0 q1 q2 q3 q4 hb2 hz
    cases sb
    · go_wp2_with fail
      go_ret2
      exact ⟨by rw [HV.out]; rfl, HB2.out⟩
    · go_wp2_with fail
      go_ret2
      exact ⟨by rw [HV.out]; rfl, HB2.out⟩
theorem or_sw (a b : Bool) : (a || b) = (b || a) := Bool.or_comm a b
set_option maxRecDepth 100000 in
set_option maxHeartbeats 16000000 in
theorem reads (op d n m imm : Int) (w : World) (hT : Tb w) : Calls Tryd.prog 18 #[ins op d n m imm] w fun e w' => ∃ p cap, e = .returned (.slice p (readsL op d n m imm).length cap) ∧ Reads64 w' p (readsL op d n m imm) ∧ Below w.heap.size w w' := by
  have hrl : readsL op d n m imm = _ := rfl
  conv at hrl => rhs; unfold readsL
  have hcan := fun W h => can op d n m imm W h
  have ho := can_op op d n m imm
  have canb := can_bounds op d n m imm
  have cand := can_d7 op d n m imm
  have HT := Lib.hid hT
  clear hT
  generalize canB op d n m imm = cb at hcan ho canb cand hrl
  have HC := Lib.hid hcan; have HRL := Lib.hid hrl
  clear hcan hrl
  cases cb
  · clear ho canb cand
    go_enter Tryd.func18, Tryd.ntmps18
    go_wp2_with fail
    refine (HC.out _ (HT.out.below ((Below.refl _ _).alloc (Nat.le_refl _) _))).mono ?_
    rintro e w1 ⟨rfl, hb1⟩
    go_wp2_with fail
    go_ret
    have hl : readsL op d n m imm = [] := HRL.out
    rw [hl]
    exact ⟨_, _, rfl, .inl rfl, ((Below.refl _ _).alloc (Nat.le_refl _) _).trans (hb1.mono (by simp))⟩
  · have hrl : readsL op d n m imm = fil (msk op d n m imm) 8 := HRL.out
    obtain ⟨⟨d0, _⟩, ⟨n0, n7⟩, ⟨m0, m7⟩, _⟩ := canb rfl
    have cd := cand rfl
    have ho' := ho rfl
    have hr : op = 0 ∨ op = 1 ∨ op = 2 ∨ op = 3 ∨ op = 4 ∨ op = 5 ∨ op = 6 ∨ op = 7 ∨ op = 8 ∨ op = 9 ∨ op = 10 ∨ op = 11 ∨ op = 12 ∨ op = 13 ∨ op = 14 ∨ op = 15 ∨ op = 16 ∨ op = 17 ∨ op = 18 ∨ op = 19 ∨ op = 20 := by omega
    clear cand canb ho ho' HRL
    go_enter Tryd.func18, Tryd.ntmps18
    go_wp2_with fail
    refine (HC.out _ (HT.out.below ((Below.refl _ _).alloc (Nat.le_refl _) _))).mono ?_
    rintro e w1 ⟨rfl, hb1⟩
    obtain ⟨⟨q0, q1, q2, q3, q4⟩, hbw, hz⟩ := insCells hb1
    have HB := Lib.hid hbw
    have HRL := Lib.hid hrl
    have CD := Lib.hid cd
    have HD0 := Lib.hid d0; have HN0 := Lib.hid (And.intro n0 n7); have HM0 := Lib.hid (And.intro m0 m7)
    clear hb1 hbw hrl cd d0 n0 n7 m0 m7
    rcases hr with rfl | rfl | rfl | rfl | rfl | rfl | rfl | rfl | rfl | rfl | rfl | rfl | rfl | rfl | rfl | rfl | rfl | rfl | rfl | rfl | rfl
    · have hl : readsL 0 d n m imm = [] := by
        rw [HRL.out]
        unfold fil msk
        simp [rD, rN, rM]
      have HL := Lib.hid hl
      clear hl
      go_wp2_with fail
      go_ret
      rw [HL.out]
      exact ⟨_, _, rfl, .inl rfl, HB.out⟩
    · have hl : readsL 1 d n m imm = ris [d] := by
        rw [HRL.out]
        refine (ris1 d _ HD0.out (CD.out (by decide)) (fun r => ?_)).symm
        simp [msk, rD, rN, rM]
        try (cases decide ((r : Int) = d) <;> cases decide ((r : Int) = n) <;> cases decide ((r : Int) = m) <;> rfl)
      have HL := Lib.hid hl
      clear hl
      go_wp2_with fail
      refine (rising w1.heap.size [d] _ (holds_arr w1 [d]) (by simp) (by simp)).mono ?_
      rintro e w2 ⟨cap, rfl, hrd, hbl⟩
      have HF := Lib.hid (And.intro hrd (hbl w.heap.size w HB.out.size (HB.out.alloc HB.out.size _)))
      clear hrd hbl
      go_wp2_with fail
      go_ret
      rw [HL.out]
      exact ⟨_, _, rfl, HF.out⟩
    · have hl : readsL 2 d n m imm = ris [d] := by
        rw [HRL.out]
        refine (ris1 d _ HD0.out (CD.out (by decide)) (fun r => ?_)).symm
        simp [msk, rD, rN, rM]
        try (cases decide ((r : Int) = d) <;> cases decide ((r : Int) = n) <;> cases decide ((r : Int) = m) <;> rfl)
      have HL := Lib.hid hl
      clear hl
      go_wp2_with fail
      refine (rising w1.heap.size [d] _ (holds_arr w1 [d]) (by simp) (by simp)).mono ?_
      rintro e w2 ⟨cap, rfl, hrd, hbl⟩
      have HF := Lib.hid (And.intro hrd (hbl w.heap.size w HB.out.size (HB.out.alloc HB.out.size _)))
      clear hrd hbl
      go_wp2_with fail
      go_ret
      rw [HL.out]
      exact ⟨_, _, rfl, HF.out⟩
    · have hl : readsL 3 d n m imm = ris [d] := by
        rw [HRL.out]
        refine (ris1 d _ HD0.out (CD.out (by decide)) (fun r => ?_)).symm
        simp [msk, rD, rN, rM]
        try (cases decide ((r : Int) = d) <;> cases decide ((r : Int) = n) <;> cases decide ((r : Int) = m) <;> rfl)
      have HL := Lib.hid hl
      clear hl
      go_wp2_with fail
      refine (rising w1.heap.size [d] _ (holds_arr w1 [d]) (by simp) (by simp)).mono ?_
      rintro e w2 ⟨cap, rfl, hrd, hbl⟩
      have HF := Lib.hid (And.intro hrd (hbl w.heap.size w HB.out.size (HB.out.alloc HB.out.size _)))
      clear hrd hbl
      go_wp2_with fail
      go_ret
      rw [HL.out]
      exact ⟨_, _, rfl, HF.out⟩
    · have hl : readsL 4 d n m imm = ris [m] := by
        rw [HRL.out]
        refine (ris1 m _ HM0.out.1 HM0.out.2 (fun r => ?_)).symm
        simp [msk, rD, rN, rM]
        try (cases decide ((r : Int) = d) <;> cases decide ((r : Int) = n) <;> cases decide ((r : Int) = m) <;> rfl)
      have HL := Lib.hid hl
      clear hl
      go_wp2_with fail
      refine (rising w1.heap.size [m] _ (holds_arr w1 [m]) (by simp) (by simp)).mono ?_
      rintro e w2 ⟨cap, rfl, hrd, hbl⟩
      have HF := Lib.hid (And.intro hrd (hbl w.heap.size w HB.out.size (HB.out.alloc HB.out.size _)))
      clear hrd hbl
      go_wp2_with fail
      go_ret
      rw [HL.out]
      exact ⟨_, _, rfl, HF.out⟩
    · have hl : readsL 5 d n m imm = ris [m] := by
        rw [HRL.out]
        refine (ris1 m _ HM0.out.1 HM0.out.2 (fun r => ?_)).symm
        simp [msk, rD, rN, rM]
        try (cases decide ((r : Int) = d) <;> cases decide ((r : Int) = n) <;> cases decide ((r : Int) = m) <;> rfl)
      have HL := Lib.hid hl
      clear hl
      go_wp2_with fail
      refine (rising w1.heap.size [m] _ (holds_arr w1 [m]) (by simp) (by simp)).mono ?_
      rintro e w2 ⟨cap, rfl, hrd, hbl⟩
      have HF := Lib.hid (And.intro hrd (hbl w.heap.size w HB.out.size (HB.out.alloc HB.out.size _)))
      clear hrd hbl
      go_wp2_with fail
      go_ret
      rw [HL.out]
      exact ⟨_, _, rfl, HF.out⟩
    · have hl : readsL 6 d n m imm = ris [m] := by
        rw [HRL.out]
        refine (ris1 m _ HM0.out.1 HM0.out.2 (fun r => ?_)).symm
        simp [msk, rD, rN, rM]
        try (cases decide ((r : Int) = d) <;> cases decide ((r : Int) = n) <;> cases decide ((r : Int) = m) <;> rfl)
      have HL := Lib.hid hl
      clear hl
      go_wp2_with fail
      refine (rising w1.heap.size [m] _ (holds_arr w1 [m]) (by simp) (by simp)).mono ?_
      rintro e w2 ⟨cap, rfl, hrd, hbl⟩
      have HF := Lib.hid (And.intro hrd (hbl w.heap.size w HB.out.size (HB.out.alloc HB.out.size _)))
      clear hrd hbl
      go_wp2_with fail
      go_ret
      rw [HL.out]
      exact ⟨_, _, rfl, HF.out⟩
    · have hl : readsL 7 d n m imm = ris [n, m] := by
        rw [HRL.out]
        refine (ris2 n m _ HN0.out.1 HN0.out.2 HM0.out.1 HM0.out.2 (fun r => ?_)).symm
        simp [msk, rD, rN, rM]
        try (cases decide ((r : Int) = d) <;> cases decide ((r : Int) = n) <;> cases decide ((r : Int) = m) <;> rfl)
      have HL := Lib.hid hl
      clear hl
      go_wp2_with fail
      refine (rising w1.heap.size [n, m] _ (holds_arr w1 [n, m]) (by simp) (by simp)).mono ?_
      rintro e w2 ⟨cap, rfl, hrd, hbl⟩
      have HF := Lib.hid (And.intro hrd (hbl w.heap.size w HB.out.size (HB.out.alloc HB.out.size _)))
      clear hrd hbl
      go_wp2_with fail
      go_ret
      rw [HL.out]
      exact ⟨_, _, rfl, HF.out⟩
    · have hl : readsL 8 d n m imm = ris [n, m] := by
        rw [HRL.out]
        refine (ris2 n m _ HN0.out.1 HN0.out.2 HM0.out.1 HM0.out.2 (fun r => ?_)).symm
        simp [msk, rD, rN, rM]
        try (cases decide ((r : Int) = d) <;> cases decide ((r : Int) = n) <;> cases decide ((r : Int) = m) <;> rfl)
      have HL := Lib.hid hl
      clear hl
      go_wp2_with fail
      refine (rising w1.heap.size [n, m] _ (holds_arr w1 [n, m]) (by simp) (by simp)).mono ?_
      rintro e w2 ⟨cap, rfl, hrd, hbl⟩
      have HF := Lib.hid (And.intro hrd (hbl w.heap.size w HB.out.size (HB.out.alloc HB.out.size _)))
      clear hrd hbl
      go_wp2_with fail
      go_ret
      rw [HL.out]
      exact ⟨_, _, rfl, HF.out⟩
    · have hl : readsL 9 d n m imm = ris [n] := by
        rw [HRL.out]
        refine (ris1 n _ HN0.out.1 HN0.out.2 (fun r => ?_)).symm
        simp [msk, rD, rN, rM]
        try (cases decide ((r : Int) = d) <;> cases decide ((r : Int) = n) <;> cases decide ((r : Int) = m) <;> rfl)
      have HL := Lib.hid hl
      clear hl
      go_wp2_with fail
      refine (rising w1.heap.size [n] _ (holds_arr w1 [n]) (by simp) (by simp)).mono ?_
      rintro e w2 ⟨cap, rfl, hrd, hbl⟩
      have HF := Lib.hid (And.intro hrd (hbl w.heap.size w HB.out.size (HB.out.alloc HB.out.size _)))
      clear hrd hbl
      go_wp2_with fail
      go_ret
      rw [HL.out]
      exact ⟨_, _, rfl, HF.out⟩
    · have hl : readsL 10 d n m imm = ris [n] := by
        rw [HRL.out]
        refine (ris1 n _ HN0.out.1 HN0.out.2 (fun r => ?_)).symm
        simp [msk, rD, rN, rM]
        try (cases decide ((r : Int) = d) <;> cases decide ((r : Int) = n) <;> cases decide ((r : Int) = m) <;> rfl)
      have HL := Lib.hid hl
      clear hl
      go_wp2_with fail
      refine (rising w1.heap.size [n] _ (holds_arr w1 [n]) (by simp) (by simp)).mono ?_
      rintro e w2 ⟨cap, rfl, hrd, hbl⟩
      have HF := Lib.hid (And.intro hrd (hbl w.heap.size w HB.out.size (HB.out.alloc HB.out.size _)))
      clear hrd hbl
      go_wp2_with fail
      go_ret
      rw [HL.out]
      exact ⟨_, _, rfl, HF.out⟩
    · by_cases i9 : imm = 9
      · subst i9
        have hl : readsL 11 d n m 9 = ris [m] := by
          rw [HRL.out]
          refine (ris1 m _ HM0.out.1 HM0.out.2 (fun r => ?_)).symm
          simp [msk, rD, rN, rM]
          try (cases decide ((r : Int) = d) <;> cases decide ((r : Int) = n) <;> cases decide ((r : Int) = m) <;> rfl)
        have HL := Lib.hid hl
        clear hl
        go_wp2_with fail
        refine (rising w1.heap.size [m] _ (holds_arr w1 [m]) (by simp) (by simp)).mono ?_
        rintro e w2 ⟨cap, rfl, hrd, hbl⟩
        have HF := Lib.hid (And.intro hrd (hbl w.heap.size w HB.out.size (HB.out.alloc HB.out.size _)))
        clear hrd hbl
        go_wp2_with fail
        go_ret
        rw [HL.out]
        exact ⟨_, _, rfl, HF.out⟩
      by_cases i15 : imm = 15
      · subst i15
        have hl : readsL 11 d n m 15 = ris [m] := by
          rw [HRL.out]
          refine (ris1 m _ HM0.out.1 HM0.out.2 (fun r => ?_)).symm
          simp [msk, rD, rN, rM]
          try (cases decide ((r : Int) = d) <;> cases decide ((r : Int) = n) <;> cases decide ((r : Int) = m) <;> rfl)
        have HL := Lib.hid hl
        clear hl
        go_wp2_with fail
        refine (rising w1.heap.size [m] _ (holds_arr w1 [m]) (by simp) (by simp)).mono ?_
        rintro e w2 ⟨cap, rfl, hrd, hbl⟩
        have HF := Lib.hid (And.intro hrd (hbl w.heap.size w HB.out.size (HB.out.alloc HB.out.size _)))
        clear hrd hbl
        go_wp2_with fail
        go_ret
        rw [HL.out]
        exact ⟨_, _, rfl, HF.out⟩
      have e1 : (imm == 9) = false := by simp [i9]
      have e2 : (imm == 15) = false := by simp [i15]
      have I9 := Lib.hid i9; have I15 := Lib.hid i15
      clear i9 i15
      have hl : readsL 11 d n m imm = ris [d, m] := by
        rw [HRL.out]
        refine (ris2 d m _ HD0.out (CD.out (by decide)) HM0.out.1 HM0.out.2 (fun r => ?_)).symm
        simp [msk, rD, rN, rM, I9.out, I15.out]
        try (cases decide ((r : Int) = d) <;> cases decide ((r : Int) = n) <;> cases decide ((r : Int) = m) <;> rfl)
      have HL := Lib.hid hl
      clear hl
      go_wp2_with fail
      refine (rising w1.heap.size [d, m] _ (holds_arr w1 [d, m]) (by simp) (by simp)).mono ?_
      rintro e w2 ⟨cap, rfl, hrd, hbl⟩
      have HF := Lib.hid (And.intro hrd (hbl w.heap.size w HB.out.size (HB.out.alloc HB.out.size _)))
      clear hrd hbl
      go_wp2_with fail
      go_ret
      rw [HL.out]
      exact ⟨_, _, rfl, HF.out⟩
    · have hl : readsL 12 d n m imm = ris [n] := by
        rw [HRL.out]
        refine (ris1 n _ HN0.out.1 HN0.out.2 (fun r => ?_)).symm
        simp [msk, rD, rN, rM]
        try (cases decide ((r : Int) = d) <;> cases decide ((r : Int) = n) <;> cases decide ((r : Int) = m) <;> rfl)
      have HL := Lib.hid hl
      clear hl
      go_wp2_with fail
      refine (rising w1.heap.size [n] _ (holds_arr w1 [n]) (by simp) (by simp)).mono ?_
      rintro e w2 ⟨cap, rfl, hrd, hbl⟩
      have HF := Lib.hid (And.intro hrd (hbl w.heap.size w HB.out.size (HB.out.alloc HB.out.size _)))
      clear hrd hbl
      go_wp2_with fail
      go_ret
      rw [HL.out]
      exact ⟨_, _, rfl, HF.out⟩
    · have hl : readsL 13 d n m imm = ris [n, d] := by
        rw [HRL.out]
        refine (ris2 n d _ HN0.out.1 HN0.out.2 HD0.out (CD.out (by decide)) (fun r => ?_)).symm
        simp [msk, rD, rN, rM]
        try (cases decide ((r : Int) = d) <;> cases decide ((r : Int) = n) <;> cases decide ((r : Int) = m) <;> rfl)
      have HL := Lib.hid hl
      clear hl
      go_wp2_with fail
      refine (rising w1.heap.size [n, d] _ (holds_arr w1 [n, d]) (by simp) (by simp)).mono ?_
      rintro e w2 ⟨cap, rfl, hrd, hbl⟩
      have HF := Lib.hid (And.intro hrd (hbl w.heap.size w HB.out.size (HB.out.alloc HB.out.size _)))
      clear hrd hbl
      go_wp2_with fail
      go_ret
      rw [HL.out]
      exact ⟨_, _, rfl, HF.out⟩
    · have hl : readsL 14 d n m imm = ris [n, m] := by
        rw [HRL.out]
        refine (ris2 n m _ HN0.out.1 HN0.out.2 HM0.out.1 HM0.out.2 (fun r => ?_)).symm
        simp [msk, rD, rN, rM]
        try (cases decide ((r : Int) = d) <;> cases decide ((r : Int) = n) <;> cases decide ((r : Int) = m) <;> rfl)
      have HL := Lib.hid hl
      clear hl
      go_wp2_with fail
      refine (rising w1.heap.size [n, m] _ (holds_arr w1 [n, m]) (by simp) (by simp)).mono ?_
      rintro e w2 ⟨cap, rfl, hrd, hbl⟩
      have HF := Lib.hid (And.intro hrd (hbl w.heap.size w HB.out.size (HB.out.alloc HB.out.size _)))
      clear hrd hbl
      go_wp2_with fail
      go_ret
      rw [HL.out]
      exact ⟨_, _, rfl, HF.out⟩
    · have hl : readsL 15 d n m imm = ris [n, m, d] := by
        rw [HRL.out]
        refine (ris3 n m d _ HN0.out.1 HN0.out.2 HM0.out.1 HM0.out.2 HD0.out (CD.out (by decide)) (fun r => ?_)).symm
        simp [msk, rD, rN, rM]
        try (cases decide ((r : Int) = d) <;> cases decide ((r : Int) = n) <;> cases decide ((r : Int) = m) <;> rfl)
      have HL := Lib.hid hl
      clear hl
      go_wp2_with fail
      refine (rising w1.heap.size [n, m, d] _ (holds_arr w1 [n, m, d]) (by simp) (by simp)).mono ?_
      rintro e w2 ⟨cap, rfl, hrd, hbl⟩
      have HF := Lib.hid (And.intro hrd (hbl w.heap.size w HB.out.size (HB.out.alloc HB.out.size _)))
      clear hrd hbl
      go_wp2_with fail
      go_ret
      rw [HL.out]
      exact ⟨_, _, rfl, HF.out⟩
    · have hl : readsL 16 d n m imm = [] := by
        rw [HRL.out]
        unfold fil msk
        simp [rD, rN, rM]
      have HL := Lib.hid hl
      clear hl
      go_wp2_with fail
      go_ret
      rw [HL.out]
      exact ⟨_, _, rfl, .inl rfl, HB.out⟩
    · have hl : readsL 17 d n m imm = [] := by
        rw [HRL.out]
        unfold fil msk
        simp [rD, rN, rM]
      have HL := Lib.hid hl
      clear hl
      go_wp2_with fail
      go_ret
      rw [HL.out]
      exact ⟨_, _, rfl, .inl rfl, HB.out⟩
    · have hl : readsL 18 d n m imm = [] := by
        rw [HRL.out]
        unfold fil msk
        simp [rD, rN, rM]
      have HL := Lib.hid hl
      clear hl
      go_wp2_with fail
      go_ret
      rw [HL.out]
      exact ⟨_, _, rfl, .inl rfl, HB.out⟩
    · have hl : readsL 19 d n m imm = [] := by
        rw [HRL.out]
        unfold fil msk
        simp [rD, rN, rM]
      have HL := Lib.hid hl
      clear hl
      go_wp2_with fail
      go_ret
      rw [HL.out]
      exact ⟨_, _, rfl, .inl rfl, HB.out⟩
    · have hl : readsL 20 d n m imm = [] := by
        rw [HRL.out]
        unfold fil msk
        simp [rD, rN, rM]
      have HL := Lib.hid hl
      clear hl
      go_wp2_with fail
      go_ret
      rw [HL.out]
      exact ⟨_, _, rfl, .inl rfl, HB.out⟩
end Go.Proofs.YtckdffcfemekcaaDoor.Tp
