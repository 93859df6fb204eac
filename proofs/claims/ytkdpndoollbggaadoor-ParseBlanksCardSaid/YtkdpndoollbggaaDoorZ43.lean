/- DERIVED. PaLv in one text. By an AI agent. -/
import Derived.Test.YtkdpndoollbggaaDoorZ42
/- DERIVED. The law's lives; the walk of ParseTells. By an AI agent. -/
namespace Go.Proofs.YtkdpndoollbggaaDoor.Pa
open Go Go.ChangeShapes Go.WideShapes Go.ChangeAt Go.RowKit Lx Args
set_option linter.unusedVariables false
set_option linter.unusedSimpArgs false
/-- The expression's tree. -/
def trL : Tr := .mk 3 0 [94] 0 [] [.mk 1 0 [97] 0 [] [], .mk 3 4 [38] 0 [] [.mk 1 4 [98] 0 [] [], .mk 2 8 [126] 0 [] [.mk 1 9 [99] 0 [] []]]]
def tkL : List Tk := [⟨1, [97], 0⟩, ⟨4, [94], 2⟩, ⟨1, [98], 4⟩, ⟨4, [38], 6⟩, ⟨4, [126], 8⟩, ⟨1, [99], 9⟩, ⟨0, [], 10⟩]
theorem live_words : wordsL [97, 32, 94, 32, 98, 32, 38, 32, 126, 99] = ⟨tkL, 0, 0⟩ := by rfl
theorem live_tree : pF numV 40 (.lev 0) 0 tkL = some (.ok [trL] [⟨0, [], 10⟩]) := by rfl
theorem live_rd {o : Out} (h : ExprR tkL o) : o = .ok [trL] [⟨0, [], 10⟩] := h.one ⟨40, fun f hf => pF_mono numV 40 f hf _ _ _ _ live_tree⟩
theorem live_expr (w : World) : Calls Tryd.prog 18 #[.string ⟨#[97, 32, 94, 32, 98, 32, 38, 32, 126, 99]⟩] w fun e w' => ∃ b o cA B cB, e = .returned (.tuple #[.agg #[.int .i64 3, .string ⟨#[94]⟩, .int .u32 0, .int .i64 0, .slice (some ⟨b, o, none⟩) 2 cA, .slice B 0 cB], .int .i64 0, .int .i64 0]) ∧
    b < w'.heap.size ∧ w'.cell? ⟨b, o + 6 + 1, none⟩ = some (.string ⟨#[38]⟩) ∧ TIn (fun b => w.heap.size ≤ b) w' trL (ndC 3 0 [94] 0 (some ⟨b, o, none⟩) 2 cA B 0 cB) ∧ Below w.heap.size w w' := by
  refine (p_expr ⟨#[97, 32, 94, 32, 98, 32, 38, 32, 126, 99]⟩ w).mono fun e w' h => ?_
  have hw : wordsL (⟨#[97, 32, 94, 32, 98, 32, 38, 32, 126, 99]⟩ : ByteArray).data.toList = ⟨tkL, 0, 0⟩ := live_words
  rcases h with ⟨k, a, sx, n, A, la, cA, B, lb, cB, x, t, r, rfl, h1, h2, h3, hT, hb⟩ | ⟨a, er, rfl, hbad, hb⟩
  · rw [hw] at h2
    have hx := live_rd h2
    simp only [Out.ok.injEq, List.cons.injEq, and_true] at hx
    obtain ⟨rfl, _⟩ := hx
    obtain ⟨rfl, rfl, rfl, rfl, rfl, rfl, _, _, _, css, hL, hS⟩ := tIn_parts hT
    obtain ⟨b, o, k', a', s', n', A', la', cA', B', lb', cB', rfl, hTy, hb2, e0, e1, e2, e3, e4, e5⟩ := part_at hL hS (i := 1) (y := .mk 3 4 [38] 0 [] [.mk 1 4 [98] 0 [] [], .mk 2 8 [126] 0 [] [.mk 1 9 [99] 0 [] []]]) rfl
    obtain ⟨_, rfl, _⟩ := tIn_parts hTy
    exact ⟨b, o, cA, B, cB, rfl, hb2, e1, hT, hb⟩
  · exfalso
    rw [hw] at hbad
    rcases hbad with ⟨h, _⟩ | ⟨_, h | ⟨xs, t, r, h, hk, _⟩⟩
    · exact h rfl
    · have := live_rd h; cases this
    · have := live_rd h
      simp only [Out.ok.injEq, List.cons.injEq] at this
      obtain ⟨_, rfl, _⟩ := this
      exact hk rfl
set_option maxRecDepth 100000 in
set_option maxHeartbeats 4000000 in
theorem lives (w : World) : Calls Tryd.prog 8 #[] w fun e w' => e = .returned (.bool true) ∧ Below w.heap.size w w' := by
  have HE := Lib.hid (live_expr w)
  go_enter Tryd.func8, Tryd.ntmps8
  go_wp2_with fail
  refine HE.out.mono ?_
  rintro e w1 ⟨b, o, cA, B, cB, rfl, hb, e1, hT, hw⟩
  obtain ⟨w2, hw2⟩ : ∃ w2, w1.alloc (.cells #[.int .i64 3, .string ⟨#[94]⟩, .int .u32 0, .int .i64 0, .slice (some ⟨b, o, none⟩) 2 cA, .slice B 0 cB] 27) = w2 := ⟨_, rfl⟩
  have hb2 : Below w1.heap.size w1 w2 := by rw [← hw2]; exact (Below.refl _ _).alloc (Nat.le_refl _) _
  have hc := count (SizeOf.sizeOf trL + 1) trL (Nat.lt_succ_self _) (by decide) _ w2 _ _ _ _ _ _ _ _ _ _ (hT.upd (Upd.of_below hb2 fun _ => False) fun _ _ h => h)
  have HC := Lib.hid (show Calls Tryd.prog 19 #[.agg #[.int .i64 3, .string ⟨#[94]⟩, .int .u32 0, .int .i64 0, .slice (some ⟨b, o, none⟩) 2 cA, .slice B 0 cB]] w2 fun e w' => e = .returned (.int .i64 6) ∧ Below w2.heap.size w2 w' from hc)
  have HW2 := Lib.hid hw2; have HB2 := Lib.hid (hw.trans (hb2.mono hw.size))
  clear hT hw hw2 hb2 hc
  go_wp2_with fail
  rw [HW2.out]
  refine HC.out.mono ?_
  rintro e w3 ⟨rfl, hb3⟩
  have HB3 := Lib.hid (HB2.out.trans (hb3.mono HB2.out.size))
  clear hb3
  go_wp2_with fail
  go_ret
  exact ⟨rfl, HB3.out⟩
/-- The walk of ParseTells. -/
theorem tells_ok {s : Bs} (h : (wordsL s).er = 0) {a er : Nat} (hr : ProgR (wordsL s).l (.bad a er)) : a ≤ s.length ∧ (er = 100 ∨ er = 150) := by
  obtain ⟨f, hf⟩ := (show Rd numV (.stmts []) 0 (wordsL s).l (.bad a er) from hr).at_
  exact tells h hf
theorem bad_place {s : Bs} {a er : Nat} (h : BadR ProgR (wordsL s) a er) : a ≤ s.length ∧ (er = 100 ∨ er = 150) := by
  rcases h with ⟨h, rfl, rfl⟩ | ⟨h0, h | ⟨xs, t, r, h, hk, _⟩⟩
  · exact words_bad_at h
  · exact tells_ok h0 h
  · obtain ⟨zs, a', _, _, e, r', hr, he⟩ := h
    simp only [List.cons.injEq] at hr
    obtain ⟨rfl, _⟩ := hr
    exact absurd he hk
set_option maxRecDepth 100000 in
set_option maxHeartbeats 4000000 in
theorem parseTells.walk (W : World) (s : ByteArray) (hs : s.size ≤ 140737488351232) : Calls Tryd.prog 4 #[.string s] W fun e w' => e = .returned (.bool true) ∧ Below W.heap.size W w' := by
  have HP := Lib.hid (p_program s W)
  have H5 := Lib.hid lives
  go_enter Tryd.func4, Tryd.ntmps4
  go_wp2_with fail
  refine HP.out.mono ?_
  rintro e w1 (⟨k, a, sx, n, A, la, cA, B, lb, cB, x, t, r, rfl, h1, h2, h3, hT, hb⟩ | ⟨a, er, rfl, hbad, hb⟩)
  · obtain ⟨zs, a', hx, _⟩ := h2
    simp only [List.cons.injEq, and_true] at hx
    subst hx
    obtain ⟨rfl, _⟩ := tIn_parts hT
    have HB := Lib.hid hb
    clear hT hb h1
    go_wp2_with fail
    refine (H5.out _).mono ?_
    rintro e w3 ⟨rfl, b3⟩
    have B3 := Lib.hid ((HB.out.alloc HB.out.size _).trans (b3.mono (HB.out.alloc HB.out.size _).size))
    clear b3
    go_wp2_with fail
    go_ret
    exact ⟨rfl, B3.out⟩
  · obtain ⟨ha, her⟩ := bad_place hbad
    have hsl := size_len s
    have j1 : decide ((a : Int) ≤ (s.size : Int)) = true := by simp; omega
    have j1' : decide (a ≤ s.size) = true := by simp; omega
    have HB := Lib.hid hb
    clear hb hbad
    rcases her with rfl | rfl
    all_goals
      go_wp2_with fail
      refine (H5.out _).mono ?_
      rintro e w3 ⟨rfl, b3⟩
      have B3 := Lib.hid ((HB.out.alloc HB.out.size _).trans (b3.mono (HB.out.alloc HB.out.size _).size))
      clear b3
      go_wp2_with fail
      go_ret
      exact ⟨rfl, B3.out⟩
end Go.Proofs.YtkdpndoollbggaaDoor.Pa
