/- DERIVED. The walk of the law that no two instructions have one halfword. By an AI agent. -/
import Derived.Test.YtckdffcfemekcaaDoorTpLaws
namespace Go.Proofs.YtckdffcfemekcaaDoor
open Go.ChangeShapes Go.WideShapes Go.ChangeAt Go.RowKit Go.Sort ThRef Tp
set_option linter.unusedVariables false
theorem Tp.put_one {k k' : Nat} {d n m i d' n' m' i' : Int} (hk : k < 21) (hk' : k' < 21) (h : canB k d n m i = true) (h' : canB k' d' n' m' i' = true) (e : putI k d n m i = putI k' d' n' m' i') : k = k' ∧ d = d' ∧ n = n' ∧ m = m' ∧ i = i' := by
  have h1 := take_put k hk d n m i h
  rw [e, take_put k' hk' d' n' m' i' h'] at h1
  simp at h1
  omega
/-- What the law's first two calls give. -/
def Tp.putW (op d n m imm : Int) (x e : Nat) : Prop := ∀ w, Tb w → Calls Tryd.prog 8 #[ins op d n m imm] w fun z w' => z = .returned (.tuple #[.int .u16 x, .int .i64 e]) ∧ Below w.heap.size w w'
theorem Tp.putW_ok (op d n m imm : Int) : ∃ x e : Nat, Tp.putW op d n m imm x e ∧ x < 65536 ∧ (e = 0 ∨ e = 1) ∧ (e = 0 → ∃ k : Nat, op = k ∧ k < 21 ∧ canB k d n m imm = true ∧ x = putI k d n m imm) := by
  by_cases hc : canB op d n m imm = true
  · have ho := can_op op d n m imm hc
    obtain ⟨k, rfl⟩ := Int.eq_ofNat_of_zero_le ho.1
    have hk : k < 21 := by omega
    refine ⟨putI k d n m imm, 0, fun w h => ?_, (head_put k hk d n m imm hc).2, .inl rfl, fun _ => ⟨k, rfl, hk, hc, rfl⟩⟩
    have hv : putV k d n m imm = .tuple #[.int .u16 (putI k d n m imm : Nat), .int .i64 0] := by unfold putV; rw [hc]; rfl
    have := putP k d n m imm w h
    rw [hv] at this
    exact this
  · have hc2 : canB op d n m imm = false := by simpa using hc
    refine ⟨0, 1, fun w h => ?_, by omega, .inr rfl, fun h => by omega⟩
    have hv : putV op d n m imm = .tuple #[.int .u16 0, .int .i64 1] := by unfold putV; rw [hc2]; rfl
    have := putP op d n m imm w h
    rw [hv] at this
    exact this
set_option maxRecDepth 100000 in
set_option maxHeartbeats 4000000 in
theorem thumbOne.walk (op d n m imm : Int) (hw : (Lit.int .i64 op).wf = true ∧ (Lit.int .i64 d).wf = true ∧ (Lit.int .i64 n).wf = true ∧ (Lit.int .i64 m).wf = true ∧ (Lit.int .i64 imm).wf = true)
    (op' d' n' m' imm' : Int) (hw' : (Lit.int .i64 op').wf = true ∧ (Lit.int .i64 d').wf = true ∧ (Lit.int .i64 n').wf = true ∧ (Lit.int .i64 m').wf = true ∧ (Lit.int .i64 imm').wf = true) (W : World) (hT : Tb W) :
    Calls Tryd.prog 6 #[ins op d n m imm, ins op' d' n' m' imm'] W fun e w' => e = .returned (.bool true) ∧ Below W.heap.size W w' := by
  clear hw hw'
  obtain ⟨x, e, hp, hx, he, hk⟩ := Tp.putW_ok op d n m imm
  obtain ⟨x', e', hp', hx', he', hk'⟩ := Tp.putW_ok op' d' n' m' imm'
  have hone : e = 0 → e' = 0 → (x = x' ↔ (op = op' ∧ d = d' ∧ n = n' ∧ m = m' ∧ imm = imm')) := fun h h' => by
    obtain ⟨k, rfl, hk1, hc1, hx1⟩ := hk h
    obtain ⟨k', rfl, hk1', hc1', hx1'⟩ := hk' h'
    constructor
    · intro hxx
      have := Tp.put_one hk1 hk1' hc1 hc1' (by rw [← hx1, ← hx1', hxx])
      omega
    · rintro ⟨h1, h2, h3, h4, h5⟩
      rw [hx1, hx1', h2, h3, h4, h5, Int.natCast_inj.1 h1]
  have HT := Lib.hid hT; have HP := Lib.hid hp; have HP' := Lib.hid hp'; have HO := Lib.hid hone; have HE := Lib.hid he; have HE' := Lib.hid he'
  clear hT hp hp' hk hk' hone he he'
  go_enter Tryd.func6, Tryd.ntmps6
  go_wp2_with fail
  refine (HP.out _ (HT.out.below (((Below.refl _ _).alloc (Nat.le_refl _) _).alloc (by simp) _))).mono ?_
  rintro z w1 ⟨rfl, hb1⟩
  have hz := hb1.size
  simp at hz
  have hc0 : ∀ j, w1.cell? ⟨W.heap.size, j, none⟩ = _ := fun j => (hb1.cell (p := ⟨W.heap.size, j, none⟩) (by simp; omega)).trans ((World.cell?_alloc_lt _ _ ⟨W.heap.size, j, none⟩ (by simp)).trans (World.cell?_alloc_at _ _ _ _ rfl))
  have hc1 : ∀ j, w1.cell? ⟨W.heap.size + 1, j, none⟩ = _ := fun j => (hb1.cell (p := ⟨W.heap.size + 1, j, none⟩) (by simp)).trans (World.cell?_alloc_at _ _ _ _ (by simp))
  have HC0 := Lib.hid hc0
  have q0 : w1.cell? ⟨W.heap.size + 1, 0, none⟩ = some (.int .i64 op') := hc1 0
  have q1 : w1.cell? ⟨W.heap.size + 1, 1, none⟩ = some (.int .i64 d') := hc1 1
  have q2 : w1.cell? ⟨W.heap.size + 1, 2, none⟩ = some (.int .i64 n') := hc1 2
  have q3 : w1.cell? ⟨W.heap.size + 1, 3, none⟩ = some (.int .i64 m') := hc1 3
  have q4 : w1.cell? ⟨W.heap.size + 1, 4, none⟩ = some (.int .i64 imm') := hc1 4
  have HB := Lib.hid (((((Below.refl _ _).alloc (Nat.le_refl _) _).alloc (by simp) _).trans (hb1.mono (by simp; omega)) : Below W.heap.size W w1))
  have HZ := Lib.hid hz
  clear hc0 hc1 hb1 hz
  go_wp2_with fail
  refine (HP'.out _ (HT.out.below HB.out)).mono ?_
  rintro z w2 ⟨rfl, hb2⟩
  have hz1 : W.heap.size + 1 < w1.heap.size := by have := HZ.out; omega
  have hz0 : W.heap.size < w1.heap.size := by omega
  have p0 : w2.cell? ⟨W.heap.size, 0, none⟩ = some (.int .i64 op) := (hb2.cell (p := ⟨W.heap.size, 0, none⟩) hz0).trans (HC0.out 0)
  have p1 : w2.cell? ⟨W.heap.size, 1, none⟩ = some (.int .i64 d) := (hb2.cell (p := ⟨W.heap.size, 1, none⟩) hz0).trans (HC0.out 1)
  have p2 : w2.cell? ⟨W.heap.size, 2, none⟩ = some (.int .i64 n) := (hb2.cell (p := ⟨W.heap.size, 2, none⟩) hz0).trans (HC0.out 2)
  have p3 : w2.cell? ⟨W.heap.size, 3, none⟩ = some (.int .i64 m) := (hb2.cell (p := ⟨W.heap.size, 3, none⟩) hz0).trans (HC0.out 3)
  have p4 : w2.cell? ⟨W.heap.size, 4, none⟩ = some (.int .i64 imm) := (hb2.cell (p := ⟨W.heap.size, 4, none⟩) hz0).trans (HC0.out 4)
  have r0 : w2.cell? ⟨W.heap.size + 1, 0, none⟩ = some (.int .i64 op') := (hb2.cell (p := ⟨W.heap.size + 1, 0, none⟩) hz1).trans q0
  have r1 : w2.cell? ⟨W.heap.size + 1, 1, none⟩ = some (.int .i64 d') := (hb2.cell (p := ⟨W.heap.size + 1, 1, none⟩) hz1).trans q1
  have r2 : w2.cell? ⟨W.heap.size + 1, 2, none⟩ = some (.int .i64 n') := (hb2.cell (p := ⟨W.heap.size + 1, 2, none⟩) hz1).trans q2
  have r3 : w2.cell? ⟨W.heap.size + 1, 3, none⟩ = some (.int .i64 m') := (hb2.cell (p := ⟨W.heap.size + 1, 3, none⟩) hz1).trans q3
  have r4 : w2.cell? ⟨W.heap.size + 1, 4, none⟩ = some (.int .i64 imm') := (hb2.cell (p := ⟨W.heap.size + 1, 4, none⟩) hz1).trans q4
  have HB2 := Lib.hid (HB.out.trans (hb2.mono HB.out.size))
  clear q0 q1 q2 q3 q4 hb2 hz1 hz0
  rcases HE.out with rfl | rfl
  · rcases HE'.out with rfl | rfl
    · have hone := HO.out rfl rfl
      by_cases hxx : x = x'
      · obtain ⟨rfl, rfl, rfl, rfl, rfl⟩ := hone.1 hxx
        subst hxx
        clear hone
        go_wp2_with (go_at_call 12; refine (Tp.lives _ (HT.out.below HB2.out)).mono ?_; rintro e w5 ⟨rfl, hb5⟩)
        go_ret
        exact ⟨rfl, HB2.out.trans (hb5.mono HB2.out.size)⟩
      · have hne : ¬ (op = op' ∧ d = d' ∧ n = n' ∧ m = m' ∧ imm = imm') := fun h => hxx (hone.2 h)
        have e1 : ((x : Int) == (x' : Int)) = false := by simp; omega
        clear hone hxx
        by_cases c0 : op = op'
        · subst c0
          by_cases c1 : d = d'
          · subst c1
            by_cases c2 : n = n'
            · subst c2
              by_cases c3 : m = m'
              · subst c3
                have f4 : (imm == imm') = false := by simp at hne ⊢; exact hne
                clear hne
                go_wp2_with (go_at_call 12; refine (Tp.lives _ (HT.out.below HB2.out)).mono ?_; rintro e w5 ⟨rfl, hb5⟩)
                go_ret
                exact ⟨rfl, HB2.out.trans (hb5.mono HB2.out.size)⟩
              · have f3 : (m == m') = false := by simpa using c3
                clear hne c3
                go_wp2_with (go_at_call 12; refine (Tp.lives _ (HT.out.below HB2.out)).mono ?_; rintro e w5 ⟨rfl, hb5⟩)
                go_ret
                exact ⟨rfl, HB2.out.trans (hb5.mono HB2.out.size)⟩
            · have f2 : (n == n') = false := by simpa using c2
              clear hne c2
              go_wp2_with (go_at_call 12; refine (Tp.lives _ (HT.out.below HB2.out)).mono ?_; rintro e w5 ⟨rfl, hb5⟩)
              go_ret
              exact ⟨rfl, HB2.out.trans (hb5.mono HB2.out.size)⟩
          · have f1 : (d == d') = false := by simpa using c1
            clear hne c1
            go_wp2_with (go_at_call 12; refine (Tp.lives _ (HT.out.below HB2.out)).mono ?_; rintro e w5 ⟨rfl, hb5⟩)
            go_ret
            exact ⟨rfl, HB2.out.trans (hb5.mono HB2.out.size)⟩
        · have f0 : (op == op') = false := by simpa using c0
          clear hne c0
          go_wp2_with (go_at_call 12; refine (Tp.lives _ (HT.out.below HB2.out)).mono ?_; rintro e w5 ⟨rfl, hb5⟩)
          go_ret
          exact ⟨rfl, HB2.out.trans (hb5.mono HB2.out.size)⟩
    · go_wp2_with (go_at_call 12; refine (Tp.lives _ (HT.out.below HB2.out)).mono ?_; rintro e w5 ⟨rfl, hb5⟩)
      go_ret
      exact ⟨rfl, HB2.out.trans (hb5.mono HB2.out.size)⟩
  · go_wp2_with (go_at_call 12; refine (Tp.lives _ (HT.out.below HB2.out)).mono ?_; rintro e w5 ⟨rfl, hb5⟩)
    go_ret
    exact ⟨rfl, HB2.out.trans (hb5.mono HB2.out.size)⟩
end Go.Proofs.YtckdffcfemekcaaDoor
