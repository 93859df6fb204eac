/- DERIVED. PaBl in one text. By an AI agent. -/
import Derived.Test.YtkdpndoollbggaaDoorZ43
import Derived.Test.YtkdpndoollbggaaDoorZ44
import Derived.Test.YtkdpndoollbggaaDoorZ45
/- DERIVED. The walk of ParseBlanks. By an AI agent. -/
namespace Go.Proofs.YtkdpndoollbggaaDoor.Pa
open Go Go.ChangeShapes Go.WideShapes Go.ChangeAt Go.RowKit Lx Args
set_option linter.unusedVariables false
set_option linter.unusedSimpArgs false
/-- The same words but for places: the same program but for places. -/
theorem again {s s' : Bs} {zs : List Tr} {r : List Tk} (h1 : Rd numV (.stmts []) 0 (wordsL s).l (.ok zs r)) (he : (wordsL s').er = 0) (hst : strip (wordsL s').l = strip (wordsL s).l) :
    (∀ a er, ¬ BadR ProgR (wordsL s') a er) ∧ ∀ xs r', ProgR (wordsL s').l (.ok xs r') → ∃ zs' a, xs = [.mk 13 a [] 0 [] zs'] ∧ skL zs = skL zs' := by
  have key : ∀ o, Rd numV (.stmts []) 0 (wordsL s').l o → ∃ ys' r', o = .ok ys' r' ∧ skL zs = skL ys' := fun o ho => by
    obtain ⟨f, hf⟩ := h1.at_
    obtain ⟨g, hg⟩ := ho.at_
    obtain ⟨ys', r', e, h2, _⟩ := same_programs (sl_strip hst.symm) hf hg
    exact ⟨ys', r', e, h2⟩
  refine ⟨fun a er hb => ?_, fun xs r' h => ?_⟩
  · rcases hb with ⟨h, _⟩ | ⟨_, h | ⟨xs, t, r', h, hk, _⟩⟩
    · exact h he
    · obtain ⟨_, _, e, _⟩ := key _ h; cases e
    · obtain ⟨zs', a', _, _, e, r2, hr, hz⟩ := h
      simp only [List.cons.injEq] at hr
      obtain ⟨rfl, _⟩ := hr
      exact hk hz
  · obtain ⟨zs', a, rfl, h2, _⟩ := h
    obtain ⟨ys', r2, e, h3⟩ := key _ h2
    simp only [Out.ok.injEq] at e
    obtain ⟨rfl, _⟩ := e
    exact ⟨zs', a, rfl, h3⟩
def blk8 : Bs := [9, 32, 47, 47, 32, 120, 10, 32]
theorem blk8_skip (r : Bs) : skipL false (10 :: (blk8 ++ r)) = blk8.length + 1 + skipL false r := by
  show skipL false r + 1 + 1 + 1 + 1 + 1 + 1 + 1 + 1 + 1 = 8 + 1 + skipL false r
  omega
theorem bs_of (s : ByteArray) : (⟨s.data.toList.toArray⟩ : ByteArray) = s := by simp
set_option maxRecDepth 100000 in
set_option maxHeartbeats 8000000 in
theorem parseBlanks.walk (W : World) (s : ByteArray) (hs : s.size ≤ 140737488351232) (a : Int) (wa : (Lit.int .u16 a).wf = true) : Calls Tryd.prog 3 #[.string s, .int .u16 a] W fun e w' => e = .returned (.bool true) ∧ Below W.heap.size W w' := by
  have HP := Lib.hid (p_program s W)
  have HWD := Lib.hid (words s)
  have H5 := Lib.hid lives
  have ha : 0 ≤ a ∧ a ≤ 65535 := by
    have := wa; simp [Lit.wf] at this
    simpa [IntKind.min, IntKind.max, IntKind.signed, IntKind.bits] using this
  obtain ⟨c, rfl⟩ : ∃ c : Nat, a = (c : Int) := ⟨a.toNat, by omega⟩
  have hc : c < 65536 := by omega
  have hsl := size_len s
  clear wa ha
  go_enter Tryd.func3, Tryd.ntmps3
  go_wp2_with fail
  refine HP.out.mono ?_
  rintro e w1 (⟨k, a, sx, n, A, la, cA, B, lb, cB, x, t, r, rfl, h1, h2, h3, hT, hb⟩ | ⟨a, er, rfl, hbad, hb⟩)
  rotate_left
  · obtain ⟨_, her⟩ := bad_place hbad
    have hne : ((er : Int) != 0) = true := by rcases her with rfl | rfl <;> rfl
    have HB := Lib.hid hb
    clear hb hbad her
    go_wp2_with fail
    refine (HWD.out _).mono ?_
    rintro e w2 ⟨A, c', rfl, hL, hb2⟩
    have HB2 := Lib.hid ((HB.out.alloc HB.out.size _).trans (hb2.mono (HB.out.alloc HB.out.size _).size))
    clear hL hb2
    go_wp2_with fail
    refine (H5.out _).mono ?_
    rintro e w3 ⟨rfl, b3⟩
    have B3 := Lib.hid (HB2.out.trans (b3.mono HB2.out.size))
    clear b3
    go_wp2_with fail
    go_ret
    exact ⟨rfl, B3.out⟩
  obtain ⟨zs, a', hx, hRd, _⟩ := h2
  simp only [List.cons.injEq, and_true] at hx
  subst hx
  obtain ⟨rfl, rfl, rfl, rfl, rfl, rfl, _⟩ := tIn_parts hT
  obtain ⟨w2, hw2⟩ : ∃ w2, w1.alloc (.cells #[.int .i64 13, .string ⟨#[]⟩, .int .u32 0, .int .i64 (a : Int), .slice A zs.length cA, .slice B 0 cB] 27) = w2 := ⟨_, rfl⟩
  have hb12 : Below w1.heap.size w1 w2 := by rw [← hw2]; exact (Below.refl _ _).alloc (Nat.le_refl _) _
  have hbx : Blk w2 w1.heap.size 27 #[.int .i64 13, .string ⟨#[]⟩, .int .u32 0, .int .i64 (a : Int), .slice A zs.length cA, .slice B 0 cB] := by rw [← hw2]; exact Blk.new _ _ _
  have HT := Lib.hid (hT.upd (Upd.of_below hb12 fun _ => False) fun _ _ h => h)
  have hwd := HWD.out w2
  have hgt := words_gt h1
  have hkn := words_order s.data.toList h1
  have h20 : s.size ≤ 20000 := by
    rcases Nat.lt_or_ge 20000 s.data.toList.length with h | h
    · rw [words_long _ h] at h1; exact absurd h1 (by show ¬ (150 : Nat) = 0; decide)
    · rw [size_len] at h; exact h
  unfold WordsP at hwd
  rw [h1] at hwd
  obtain ⟨L, hLL⟩ : ∃ L, (wordsL s.data.toList).l = L := ⟨_, rfl⟩
  obtain ⟨at0, hat⟩ : ∃ a, (wordsL s.data.toList).at_ = a := ⟨_, rfl⟩
  rw [hLL, hat] at hwd
  have HWD2 := Lib.hid hwd
  have HB2 := Lib.hid (hb.trans (hb12.mono hb.size)); have HBX := Lib.hid hbx; have HRD := Lib.hid hRd; have HER := Lib.hid h1; have HLL := Lib.hid hLL; have HW2 := Lib.hid hw2
  have hLne : L.length ≠ 0 := by
    rw [← hLL]; exact fun h => hkn.1 (List.eq_nil_of_length_eq_zero h)
  have HKN := Lib.hid hkn.2
  have hL4 : L.length ≤ 4000 := by rw [← hLL]; exact words_few _
  clear hT hb hb12 hbx hRd h1 hwd hgt hkn hLL hat hw2 HWD
  go_wp2_with fail
  rw [HW2.out]
  refine HWD2.out.mono ?_
  rintro e w3 ⟨Al, cl, rfl, hL, hb3⟩
  have HB3 := Lib.hid hb3
  by_cases h19 : 19000 < s.size
  · have j1 : decide ((19000 : Int) < (s.size : Int)) = true := by simp; omega
    have j2 : ((L.length : Int) == 0) = false := beq_eq_false_iff_ne.2 (by omega)
    clear hL hb3
    go_wp2_with fail
    refine (H5.out _).mono ?_
    rintro e w4 ⟨rfl, b4⟩
    have B4 := Lib.hid ((HB2.out.trans (HB3.out.mono HB2.out.size)).trans (b4.mono (HB2.out.trans (HB3.out.mono HB2.out.size)).size))
    clear b4
    go_wp2_with fail
    go_ret
    exact ⟨rfl, B4.out⟩
  · have j1 : decide ((19000 : Int) < (s.size : Int)) = false := by simp; omega
    have j2 : ((L.length : Int) == 0) = false := beq_eq_false_iff_ne.2 (by omega)
    obtain ⟨j, hj⟩ : ∃ j, c % L.length = j := ⟨_, rfl⟩
    have hjl : j < L.length := by rw [← hj]; exact Nat.mod_lt _ (by omega)
    have hmod : Int.tmod (c : Int) (L.length : Int) = (j : Int) := by rw [← hj]; exact (Int.ofNat_tmod c L.length).symm
    obtain ⟨u, hu⟩ : ∃ u, L[j]? = some u := ⟨_, List.getElem?_eq_getElem hjl⟩
    obtain ⟨f1, f2, f3⟩ := flat3 L j u hu
    obtain ⟨b, o, rfl, hbl, hc1⟩ := hL.at_ f1
    have e3 : w3.cell? ⟨b, o + j * 3 + 2, none⟩ = some (.int .i64 (u.at_ : Int)) := by rw [Nat.add_assoc]; exact hc1 _ _ f3
    clear hc1 f1 f2 f3 hL hb3
    obtain ⟨o1, o2, o3, o4⟩ := HKN.out j u (by rw [HLL.out]; exact hu)
    have hus : u.at_ ≤ s.size := by omega
    obtain ⟨S1, hS1⟩ : ∃ S1 : ByteArray, (⟨(s.data.toList.take u.at_).toArray⟩ : ByteArray) = S1 := ⟨_, rfl⟩
    obtain ⟨S2, hS2⟩ : ∃ S2 : ByteArray, (⟨(s.data.toList.drop u.at_).toArray⟩ : ByteArray) = S2 := ⟨_, rfl⟩
    have hsa : ∀ W, (Instr.slice 9 (.string s) none (some (.int .i64 (u.at_ : Int))) none).run Tryd.prog W = .ok (.string S1) W := fun W => by
      have h := slice_to s.data.toList u.at_ (by omega) W
      rw [bs_of, hS1] at h; exact h
    have hsb : ∀ W, (Instr.slice 9 (.string s) (some (.int .i64 (u.at_ : Int))) none none).run Tryd.prog W = .ok (.string S2) W := fun W => by
      have h := slice_from s.data.toList u.at_ (by omega) W
      rw [bs_of, hS2] at h; exact h
    have hz1 : S1.size = u.at_ := by rw [← hS1]; show (List.take u.at_ s.data.toList).toArray.size = _; rw [List.size_toArray, List.length_take]; omega
    have hz2 : S2.size = s.size - u.at_ := by rw [← hS2]; show (List.drop u.at_ s.data.toList).toArray.size = _; rw [List.size_toArray, List.length_drop]; omega
    have hz3 : (S1 ++ ⟨#[10, 9, 32, 47, 47, 32, 120, 10, 32]⟩).size = S1.size + 9 := by rw [ByteArray.size_append]; rfl
    have hz4 : (S1 ++ ⟨#[10, 9, 32, 47, 47, 32, 120, 10, 32]⟩ ++ S2).size = S1.size + 9 + S2.size := by rw [ByteArray.size_append, hz3]
    have q1 : ¬ (9223372036854775807 < u.at_ + 9) := by omega
    have q2 : ¬ (9223372036854775807 < u.at_ + 9 + (s.size - u.at_)) := by omega
    have hs3 : (S1 ++ ⟨#[10, 9, 32, 47, 47, 32, 120, 10, 32]⟩ ++ S2).data.toList = s.data.toList.take u.at_ ++ 10 :: (blk8 ++ s.data.toList.drop u.at_) := by
      rw [← hS1, ← hS2]; simp [blk8]
    have hbl := words_blank s.data.toList blk8 (by show s.data.toList.length + (8 + 1) ≤ 20000; omega) HER.out j u (by rw [HLL.out]; exact hu) blk8_skip
    rw [← hs3] at hbl
    obtain ⟨hb1, hb2⟩ := again HRD.out hbl.1 hbl.2
    have HQ : Hid (∀ wq, Calls Tryd.prog 6 #[.string (S1 ++ ⟨#[10, 9, 32, 47, 47, 32, 120, 10, 32]⟩ ++ S2)] wq fun e w' => ∃ zs' p A' cA' B' cB', e = .returned (.tuple #[.agg #[.int .i64 13, .string ⟨#[]⟩, .int .u32 0, .int .i64 (p : Nat), .slice A' (zs' : List Tr).length cA', .slice B' 0 cB'], .int .i64 0, .int .i64 0]) ∧
        skL zs = skL zs' ∧ TIn (fun b => wq.heap.size ≤ b) w' (.mk 13 p [] 0 [] zs') (ndC 13 p [] 0 A' zs'.length cA' B' 0 cB') ∧ Below wq.heap.size wq w') := Lib.hid fun wq => (p_program _ wq).mono fun e w' h => by
      rcases h with ⟨k, a, sx, n, A, la, cA, B, lb, cB, x, t, r, rfl, h1, h2, h3, hT, hb⟩ | ⟨a, er, rfl, hbad, hb⟩
      · obtain ⟨zs', p, hx, hsk⟩ := hb2 _ _ h2
        simp only [List.cons.injEq, and_true] at hx
        subst hx
        obtain ⟨rfl, rfl, rfl, rfl, rfl, rfl, _⟩ := tIn_parts hT
        exact ⟨zs', _, A, cA, B, cB, rfl, hsk, hT, hb⟩
      · exact absurd hbad (hb1 a er)
    have HX3 := Lib.hid (HBX.out.below HB3.out HBX.out.lt)
    have HT3 := Lib.hid (HT.out.upd (Upd.of_below HB3.out fun _ => False) fun _ _ h => h)
    have HW3 := Lib.hid (HB2.out.trans (HB3.out.mono HB2.out.size))
    clear hs3 hbl hb1 hb2 hS1 hS2 o1 o2 o3 o4
    go_upto_region 6 with fail
    refine wp_region_held_drew (S := fun _ => True) (by kernel_rfl) trivial (fun hH => ?_)
    clear hH
    have hdr : Below w3.heap.size w3 w3.drew := below_drewN (Below.refl _ _) 1
    obtain ⟨w4, hw4⟩ : ∃ w4, w3.drew = w4 := ⟨_, rfl⟩
    rw [hw4] at hdr ⊢
    clear hw4
    have HX4 := Lib.hid (HX3.out.below hdr HX3.out.lt)
    have HT4 := Lib.hid (HT3.out.upd (Upd.of_below hdr fun _ => False) fun _ _ h => h)
    have HW4 := Lib.hid (HW3.out.trans (hdr.mono HW3.out.size))
    clear hdr
    refine wpAnyH_take (i := 0) (v := ?_) rfl (by kernel_rfl) (by kernel_rfl) (by kernel_rfl) (fun _ _ _ h => h) (Or.inl ⟨by rfl, ?_⟩) trivial ?_
    rotate_left
    · (intro w hSw; (try dsimp only at hSw); go_simp; try with_reducible rfl)
    (try simp only [Act.put, List.getElem_toArray, List.getElem_cons_succ, List.getElem_cons_zero, List.setIfInBounds_toArray, List.set_cons_zero, List.set_cons_succ])
    refine wpAnyH_take (i := 1) (v := ?_) rfl (by kernel_rfl) (by kernel_rfl) (by kernel_rfl) (fun _ _ _ h => h) (Or.inl ⟨by rfl, ?_⟩) trivial ?_
    rotate_left
    · (intro w hSw; (try dsimp only at hSw); go_simp; try with_reducible rfl)
    (try simp only [Act.put, List.getElem_toArray, List.getElem_cons_succ, List.getElem_cons_zero, List.setIfInBounds_toArray, List.set_cons_zero, List.set_cons_succ])
    refine wpAnyH_take (i := 2) (v := ?_) rfl (by kernel_rfl) (by kernel_rfl) (by kernel_rfl) (fun _ _ _ h => h) (Or.inl ⟨by rfl, ?_⟩) trivial ?_
    rotate_left
    · (intro w hSw; (try dsimp only at hSw); go_simp; try with_reducible rfl)
    (try simp only [Act.put, List.getElem_toArray, List.getElem_cons_succ, List.getElem_cons_zero, List.setIfInBounds_toArray, List.set_cons_zero, List.set_cons_succ])
    refine wpAnyH_take (i := 3) (v := ?_) rfl (by kernel_rfl) (by kernel_rfl) (by kernel_rfl) (fun _ _ _ h => h) (Or.inl ⟨by rfl, ?_⟩) trivial ?_
    rotate_left
    · (intro w hSw; (try dsimp only at hSw); go_simp; try with_reducible rfl)
    (try simp only [Act.put, List.getElem_toArray, List.getElem_cons_succ, List.getElem_cons_zero, List.setIfInBounds_toArray, List.set_cons_zero, List.set_cons_succ])
    refine wpAnyH_take (i := 4) (v := ?_) rfl (by kernel_rfl) (by kernel_rfl) (by kernel_rfl) (fun _ _ _ h => h) (Or.inl ⟨by rfl, ?_⟩) trivial ?_
    rotate_left
    · (intro w hSw; (try dsimp only at hSw); go_simp; try with_reducible rfl)
    (try simp only [Act.put, List.getElem_toArray, List.getElem_cons_succ, List.getElem_cons_zero, List.setIfInBounds_toArray, List.set_cons_zero, List.set_cons_succ])
    refine wpAnyH_take (i := 5) (v := ?_) rfl (by kernel_rfl) (by kernel_rfl) (by kernel_rfl) (fun _ _ _ h => h) (Or.inl ⟨by rfl, ?_⟩) trivial ?_
    rotate_left
    · (intro w hSw; (try dsimp only at hSw); go_simp; try with_reducible rfl)
    (try simp only [Act.put, List.getElem_toArray, List.getElem_cons_succ, List.getElem_cons_zero, List.setIfInBounds_toArray, List.set_cons_zero, List.set_cons_succ])
    refine wpAnyH_take (i := 6) (v := ?_) rfl (by kernel_rfl) (by kernel_rfl) (by kernel_rfl) (fun _ _ _ h => h) (Or.inl ⟨by rfl, ?_⟩) trivial ?_
    rotate_left
    · (intro w hSw; (try dsimp only at hSw); go_simp; try with_reducible rfl)
    (try simp only [Act.put, List.getElem_toArray, List.getElem_cons_succ, List.getElem_cons_zero, List.setIfInBounds_toArray, List.set_cons_zero, List.set_cons_succ])
    refine wpAnyH_take (i := 7) (v := ?_) rfl (by kernel_rfl) (by kernel_rfl) (by kernel_rfl) (fun _ _ _ h => h) (Or.inl ⟨by rfl, ?_⟩) trivial ?_
    rotate_left
    · (intro w hSw; (try dsimp only at hSw); go_simp; try with_reducible rfl)
    (try simp only [Act.put, List.getElem_toArray, List.getElem_cons_succ, List.getElem_cons_zero, List.setIfInBounds_toArray, List.set_cons_zero, List.set_cons_succ])
    refine wpAnyH_ready (rs := [8, 13]) (by kernel_rfl) (by simp) (AllReadyH.cons rfl (fun K hK => ?_) (AllReadyH.cons rfl (fun K hK => ?_) AllReadyH.nil))
    · go_simp
      refine (HQ.out w4).mono ?_
      rintro e w5 ⟨zs', p, A', cA', B', cB', rfl, hsk, hTY, hb5⟩
      dsimp only
      refine hK.out _ _ trivial (fun hH => ?_)
      clear hK K hH
      (try simp only [Act.put, List.getElem_toArray, List.getElem_cons_succ, List.getElem_cons_zero, List.setIfInBounds_toArray, List.set_cons_zero, List.set_cons_succ])
      refine wpAnyH_take (i := 9) (v := ?_) rfl (by kernel_rfl) (by kernel_rfl) (by kernel_rfl) (fun _ _ _ h => h) (Or.inl ⟨by rfl, ?_⟩) trivial ?_
      rotate_left
      · (intro w hSw; (try dsimp only at hSw); go_simp; try with_reducible rfl)
      (try simp only [Act.put, List.getElem_toArray, List.getElem_cons_succ, List.getElem_cons_zero, List.setIfInBounds_toArray, List.set_cons_zero, List.set_cons_succ])
      refine wpAnyH_take (i := 10) (v := ?_) rfl (by kernel_rfl) (by kernel_rfl) (by kernel_rfl) (fun _ _ _ h => h) (Or.inl ⟨by rfl, ?_⟩) trivial ?_
      rotate_left
      · (intro w hSw; (try dsimp only at hSw); go_simp; try with_reducible rfl)
      (try simp only [Act.put, List.getElem_toArray, List.getElem_cons_succ, List.getElem_cons_zero, List.setIfInBounds_toArray, List.set_cons_zero, List.set_cons_succ])
      refine wpAnyH_take (i := 11) (v := ?_) rfl (by kernel_rfl) (by kernel_rfl) (by kernel_rfl) (fun _ _ _ h => h) (Or.inl ⟨by rfl, ?_⟩) trivial ?_
      rotate_left
      · (intro w hSw; (try dsimp only at hSw); go_simp; try with_reducible rfl)
      (try simp only [Act.put, List.getElem_toArray, List.getElem_cons_succ, List.getElem_cons_zero, List.setIfInBounds_toArray, List.set_cons_zero, List.set_cons_succ])
      refine wpAnyH_take (i := 12) (v := ?_) rfl (by kernel_rfl) (by kernel_rfl) (by kernel_rfl) (fun _ _ _ h => h) (Or.inl ⟨by rfl, ?_⟩) trivial ?_
      rotate_left
      · (intro w hSw; (try dsimp only at hSw); go_simp; try with_reducible rfl)
      (try simp only [Act.put, List.getElem_toArray, List.getElem_cons_succ, List.getElem_cons_zero, List.setIfInBounds_toArray, List.set_cons_zero, List.set_cons_succ])
      refine wpAnyH_ready (rs := [13]) (by kernel_rfl) (by simp) (AllReadyH.cons rfl (fun K hK => ?_) AllReadyH.nil)
      go_simp
      obtain ⟨gY, hgY⟩ : ∃ gY, w5.heap.size = gY := ⟨_, rfl⟩
      obtain ⟨w6, hw6⟩ : ∃ w6, w5.alloc (.cells #[.int .i64 0, .string ⟨#[]⟩, .int .u32 0, .int .i64 0, .slice none 0 0, .slice none 0 0] 27) = w6 := ⟨_, rfl⟩
      have hb56 : Below w5.heap.size w5 w6 := by rw [← hw6]; exact (Below.refl _ _).alloc (Nat.le_refl _) _
      have HBY6 := Lib.hid (show Blk w6 gY 27 #[.int .i64 0, .string ⟨#[]⟩, .int .u32 0, .int .i64 0, .slice none 0 0, .slice none 0 0] by rw [← hw6, ← hgY]; exact Blk.new _ _ _)
      have hX5 := HX4.out.below hb5 HX4.out.lt
      have HX6 := Lib.hid (hX5.below hb56 hX5.lt)
      have HNE := Lib.hid (show w1.heap.size ≠ gY by have := hX5.lt; omega)
      have HT6 := Lib.hid (((HT4.out.upd (Upd.of_below hb5 fun _ => False) fun _ _ h => h).mono (N' := fun b => W.heap.size ≤ b ∧ b ≠ gY) fun b hb hs => ⟨hb, by omega⟩).upd (Upd.of_below hb56 fun _ => False) fun _ _ h => h)
      have HTY6 := Lib.hid ((hTY.mono (N' := fun b => b ≠ gY) fun b hb hs => by omega).upd (Upd.of_below hb56 fun _ => False) fun _ _ h => h)
      have hw5 := HW4.out.trans (hb5.mono HW4.out.size)
      have HW6 := Lib.hid (hw5.trans (hb56.mono hw5.size))
      have HGY := Lib.hid (show W.heap.size ≤ gY by have := hw5.size; omega)
      have HSK := Lib.hid hsk
      rw [hw6, hgY]
      refine hK.out _ _ trivial (fun hH => ?_)
      clear hK K hH hw6 hgY hb56 hb5 hTY hX5 hw5 hsk
      (try simp only [Act.put, List.getElem_toArray, List.getElem_cons_succ, List.getElem_cons_zero, List.setIfInBounds_toArray, List.set_cons_zero, List.set_cons_succ])
      obtain ⟨⟨e0, e1, e2, e3, e4, e5⟩, z0, z1, z2, z3, z4, z5⟩ := Blk.c6 HBY6.out
      obtain ⟨w7, hw7⟩ : ∃ w7, put6 w6 gY (.int .i64 13) (.string ⟨#[]⟩) (.int .u32 0) (.int .i64 (p : Int)) (.slice A' zs'.length cA') (.slice B' 0 cB') = w7 := ⟨_, rfl⟩
      have hu7 : Upd (fun b => b = gY) w6 w7 := by rw [← hw7]; exact put6_upd (X := fun b => b = gY) (Upd.refl _ _) (fun _ => rfl) _ _ _ _ _ _
      have hY7 : Blk w7 gY 27 #[.int .i64 13, .string ⟨#[]⟩, .int .u32 0, .int .i64 (p : Int), .slice A' zs'.length cA', .slice B' 0 cB'] := by rw [← hw7]; exact Blk.put6 HBY6.out _ _ _ _ _ _
      have hX7 := HX6.out.upd hu7 HNE.out
      have HT7 := Lib.hid (HT6.out.upd hu7 fun b hb e => hb.2 e)
      have HTY7 := Lib.hid (HTY6.out.upd hu7 fun b hb e => hb e)
      have HW7 := Lib.hid (show Below W.heap.size W w7 from ((Upd.of_below HW6.out fun b => b = gY).trans hu7).below (Nat.le_refl _) fun k hk => by have := HGY.out; omega)
      refine wpAnyH_ready (rs := [14]) (by kernel_rfl) (by simp) (AllReadyH.cons rfl (fun K hK => ?_) AllReadyH.nil)
      go_simp
      simp only [put6] at hw7
      rw [hw7]
      refine hK.out _ _ trivial (fun hH => ?_)
      clear hK K hH hw7 hu7 e0 e1 e2 e3 e4 e5 z0 z1 z2 z3 z4 z5
      (try simp only [Act.put, List.getElem_toArray, List.getElem_cons_succ, List.getElem_cons_zero, List.setIfInBounds_toArray, List.set_cons_zero, List.set_cons_succ])
      refine wpAnyH_ready (rs := [15]) (by kernel_rfl) (by simp) (AllReadyH.cons rfl (fun K hK => ?_) AllReadyH.nil)
      go_simp
      refine hK.out _ _ trivial (fun hH => ?_)
      clear hK K hH
      (try simp only [Act.put, List.getElem_toArray, List.getElem_cons_succ, List.getElem_cons_zero, List.setIfInBounds_toArray, List.set_cons_zero, List.set_cons_succ])
      refine wpAnyH_ready (rs := [16]) (by kernel_rfl) (by simp) (AllReadyH.cons rfl (fun K hK => ?_) AllReadyH.nil)
      go_simp
      refine hK.out _ _ trivial (fun hH => ?_)
      clear hK K hH
      (try simp only [Act.put, List.getElem_toArray, List.getElem_cons_succ, List.getElem_cons_zero, List.setIfInBounds_toArray, List.set_cons_zero, List.set_cons_succ])
      refine wpAnyH_done (by kernel_rfl) ?_ _
      dsimp only [Exit.then]
      obtain ⟨⟨e0, e1, e2, e3, e4, e5⟩, z0, z1, z2, z3, z4, z5⟩ := Blk.c6 hX7
      obtain ⟨⟨g0, g1, g2, g3, g4, g5⟩, y0, y1, y2, y3, y4, y5⟩ := Blk.c6 hY7
      have hsm := rsame (SizeOf.sizeOf (Tr.mk 13 a [] 0 [] zs) + 1) (.mk 13 a [] 0 [] zs) (.mk 13 p [] 0 [] zs') (Nat.lt_succ_self _) (by simp only [sk, HSK.out]) _ _ w7 _ _ _ _ _ _ _ _ _ _ _ _ _ _ _ _ _ _ _ _ HT7.out HTY7.out
      have HSM := Lib.hid hsm
      clear hsm
      go_wp2_with fail
      refine HSM.out.mono ?_
      rintro e w8 ⟨rfl, hb8⟩
      have HB8 := Lib.hid (HW7.out.trans (hb8.mono HW7.out.size))
      clear hb8
      go_wp2_with fail
      refine (H5.out _).mono ?_
      rintro e w9 ⟨rfl, hb9⟩
      have HB9 := Lib.hid (HB8.out.trans (hb9.mono HB8.out.size))
      clear hb9
      go_wp2_with fail
      go_ret
      exact ⟨rfl, HB9.out⟩
    · go_simp
      obtain ⟨gY, hgY⟩ : ∃ gY, w4.heap.size = gY := ⟨_, rfl⟩
      obtain ⟨w5, hw5⟩ : ∃ w5, w4.alloc (.cells #[.int .i64 0, .string ⟨#[]⟩, .int .u32 0, .int .i64 0, .slice none 0 0, .slice none 0 0] 27) = w5 := ⟨_, rfl⟩
      have hb45 : Below w4.heap.size w4 w5 := by rw [← hw5]; exact (Below.refl _ _).alloc (Nat.le_refl _) _
      have hBY5 : Blk w5 gY 27 #[.int .i64 0, .string ⟨#[]⟩, .int .u32 0, .int .i64 0, .slice none 0 0, .slice none 0 0] := by rw [← hw5, ← hgY]; exact Blk.new _ _ _
      have hNE : w1.heap.size ≠ gY := by have := HX4.out.lt; omega
      rw [hw5, hgY]
      refine hK.out _ _ trivial (fun hH => ?_)
      clear hK K hH hw5
      (try simp only [Act.put, List.getElem_toArray, List.getElem_cons_succ, List.getElem_cons_zero, List.setIfInBounds_toArray, List.set_cons_zero, List.set_cons_succ])
      refine wpAnyH_ready (rs := [8]) (by kernel_rfl) (by simp) (AllReadyH.cons rfl (fun K hK => ?_) AllReadyH.nil)
      go_simp
      refine (HQ.out w5).mono ?_
      rintro e w6 ⟨zs', p, A', cA', B', cB', rfl, hsk, hTY, hb6⟩
      have hX5 := HX4.out.below hb45 HX4.out.lt
      have HX6 := Lib.hid (hX5.below hb6 hX5.lt)
      have HBY6 := Lib.hid (hBY5.below hb6 hBY5.lt)
      have HNE := Lib.hid hNE
      have hy5 := hBY5.lt
      have HT6 := Lib.hid (((HT4.out.mono (N' := fun b => W.heap.size ≤ b ∧ b ≠ gY) fun b hb hs => ⟨hb, by omega⟩).upd (Upd.of_below hb45 fun _ => False) fun _ _ h => h).upd (Upd.of_below hb6 fun _ => False) fun _ _ h => h)
      have HTY6 := Lib.hid (hTY.mono (N' := fun b => b ≠ gY) fun b hb hs => by omega)
      have hw5 := HW4.out.trans (hb45.mono HW4.out.size)
      have HW6 := Lib.hid (hw5.trans (hb6.mono hw5.size))
      have HGY := Lib.hid (show W.heap.size ≤ gY by have := HW4.out.size; omega)
      have HSK := Lib.hid hsk
      dsimp only
      refine hK.out _ _ trivial (fun hH => ?_)
      clear hK K hH hgY hb45 hb6 hTY hX5 hw5 hsk hBY5 hNE
      (try simp only [Act.put, List.getElem_toArray, List.getElem_cons_succ, List.getElem_cons_zero, List.setIfInBounds_toArray, List.set_cons_zero, List.set_cons_succ])
      refine wpAnyH_take (i := 9) (v := ?_) rfl (by kernel_rfl) (by kernel_rfl) (by kernel_rfl) (fun _ _ _ h => h) (Or.inl ⟨by rfl, ?_⟩) trivial ?_
      rotate_left
      · (intro w hSw; (try dsimp only at hSw); go_simp; try with_reducible rfl)
      (try simp only [Act.put, List.getElem_toArray, List.getElem_cons_succ, List.getElem_cons_zero, List.setIfInBounds_toArray, List.set_cons_zero, List.set_cons_succ])
      refine wpAnyH_take (i := 10) (v := ?_) rfl (by kernel_rfl) (by kernel_rfl) (by kernel_rfl) (fun _ _ _ h => h) (Or.inl ⟨by rfl, ?_⟩) trivial ?_
      rotate_left
      · (intro w hSw; (try dsimp only at hSw); go_simp; try with_reducible rfl)
      (try simp only [Act.put, List.getElem_toArray, List.getElem_cons_succ, List.getElem_cons_zero, List.setIfInBounds_toArray, List.set_cons_zero, List.set_cons_succ])
      refine wpAnyH_take (i := 11) (v := ?_) rfl (by kernel_rfl) (by kernel_rfl) (by kernel_rfl) (fun _ _ _ h => h) (Or.inl ⟨by rfl, ?_⟩) trivial ?_
      rotate_left
      · (intro w hSw; (try dsimp only at hSw); go_simp; try with_reducible rfl)
      (try simp only [Act.put, List.getElem_toArray, List.getElem_cons_succ, List.getElem_cons_zero, List.setIfInBounds_toArray, List.set_cons_zero, List.set_cons_succ])
      refine wpAnyH_take (i := 12) (v := ?_) rfl (by kernel_rfl) (by kernel_rfl) (by kernel_rfl) (fun _ _ _ h => h) (Or.inl ⟨by rfl, ?_⟩) trivial ?_
      rotate_left
      · (intro w hSw; (try dsimp only at hSw); go_simp; try with_reducible rfl)
      (try simp only [Act.put, List.getElem_toArray, List.getElem_cons_succ, List.getElem_cons_zero, List.setIfInBounds_toArray, List.set_cons_zero, List.set_cons_succ])
      obtain ⟨⟨e0, e1, e2, e3, e4, e5⟩, z0, z1, z2, z3, z4, z5⟩ := Blk.c6 HBY6.out
      obtain ⟨w7, hw7⟩ : ∃ w7, put6 w6 gY (.int .i64 13) (.string ⟨#[]⟩) (.int .u32 0) (.int .i64 (p : Int)) (.slice A' zs'.length cA') (.slice B' 0 cB') = w7 := ⟨_, rfl⟩
      have hu7 : Upd (fun b => b = gY) w6 w7 := by rw [← hw7]; exact put6_upd (X := fun b => b = gY) (Upd.refl _ _) (fun _ => rfl) _ _ _ _ _ _
      have hY7 : Blk w7 gY 27 #[.int .i64 13, .string ⟨#[]⟩, .int .u32 0, .int .i64 (p : Int), .slice A' zs'.length cA', .slice B' 0 cB'] := by rw [← hw7]; exact Blk.put6 HBY6.out _ _ _ _ _ _
      have hX7 := HX6.out.upd hu7 HNE.out
      have HT7 := Lib.hid (HT6.out.upd hu7 fun b hb e => hb.2 e)
      have HTY7 := Lib.hid (HTY6.out.upd hu7 fun b hb e => hb e)
      have HW7 := Lib.hid (show Below W.heap.size W w7 from ((Upd.of_below HW6.out fun b => b = gY).trans hu7).below (Nat.le_refl _) fun k hk => by have := HGY.out; omega)
      refine wpAnyH_ready (rs := [14]) (by kernel_rfl) (by simp) (AllReadyH.cons rfl (fun K hK => ?_) AllReadyH.nil)
      go_simp
      simp only [put6] at hw7
      rw [hw7]
      refine hK.out _ _ trivial (fun hH => ?_)
      clear hK K hH hw7 hu7 e0 e1 e2 e3 e4 e5 z0 z1 z2 z3 z4 z5
      (try simp only [Act.put, List.getElem_toArray, List.getElem_cons_succ, List.getElem_cons_zero, List.setIfInBounds_toArray, List.set_cons_zero, List.set_cons_succ])
      refine wpAnyH_ready (rs := [15]) (by kernel_rfl) (by simp) (AllReadyH.cons rfl (fun K hK => ?_) AllReadyH.nil)
      go_simp
      refine hK.out _ _ trivial (fun hH => ?_)
      clear hK K hH
      (try simp only [Act.put, List.getElem_toArray, List.getElem_cons_succ, List.getElem_cons_zero, List.setIfInBounds_toArray, List.set_cons_zero, List.set_cons_succ])
      refine wpAnyH_ready (rs := [16]) (by kernel_rfl) (by simp) (AllReadyH.cons rfl (fun K hK => ?_) AllReadyH.nil)
      go_simp
      refine hK.out _ _ trivial (fun hH => ?_)
      clear hK K hH
      (try simp only [Act.put, List.getElem_toArray, List.getElem_cons_succ, List.getElem_cons_zero, List.setIfInBounds_toArray, List.set_cons_zero, List.set_cons_succ])
      refine wpAnyH_done (by kernel_rfl) ?_ _
      dsimp only [Exit.then]
      obtain ⟨⟨e0, e1, e2, e3, e4, e5⟩, z0, z1, z2, z3, z4, z5⟩ := Blk.c6 hX7
      obtain ⟨⟨g0, g1, g2, g3, g4, g5⟩, y0, y1, y2, y3, y4, y5⟩ := Blk.c6 hY7
      have hsm := rsame (SizeOf.sizeOf (Tr.mk 13 a [] 0 [] zs) + 1) (.mk 13 a [] 0 [] zs) (.mk 13 p [] 0 [] zs') (Nat.lt_succ_self _) (by simp only [sk, HSK.out]) _ _ w7 _ _ _ _ _ _ _ _ _ _ _ _ _ _ _ _ _ _ _ _ HT7.out HTY7.out
      have HSM := Lib.hid hsm
      clear hsm
      go_wp2_with fail
      refine HSM.out.mono ?_
      rintro e w8 ⟨rfl, hb8⟩
      have HB8 := Lib.hid (HW7.out.trans (hb8.mono HW7.out.size))
      clear hb8
      go_wp2_with fail
      refine (H5.out _).mono ?_
      rintro e w9 ⟨rfl, hb9⟩
      have HB9 := Lib.hid (HB8.out.trans (hb9.mono HB8.out.size))
      clear hb9
      go_wp2_with fail
      go_ret
      exact ⟨rfl, HB9.out⟩
end Go.Proofs.YtkdpndoollbggaaDoor.Pa
