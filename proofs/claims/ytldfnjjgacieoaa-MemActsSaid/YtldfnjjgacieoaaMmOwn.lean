/- DERIVED. The walk of MemOwn. By an AI agent; written by gen-own.py. -/
import Derived.Test.YtldfnjjgacieoaaMmTape
namespace Go.Proofs.Ytldfnjjgacieoaa.Mm
open Go.ChangeShapes Go.WideShapes Go.ChangeAt Go.RowKit Args
set_option linter.unusedVariables false
theorem pp_far {t u16 u32 : TypeId} {n0 : Nat} {h : Hd} {s : St} {w : World} (p : PM t u16 u32 n0 h s w) {g : Nat} (hg : g < n0 ∨ w.heap.size ≤ g) (i : Nat) (u : Value) : PM t u16 u32 n0 h s (w.setCell ⟨g, i, none⟩ u) :=
  p.upd ((Upd.refl (· = g) w).setCell (p := ⟨g, i, none⟩) (fun _ => rfl) u) fun k hk e => by have := p.lt hk; omega
theorem pp_off {t u16 u32 : TypeId} {n0 : Nat} {h : Hd} {s : St} {w : World} (p : PM t u16 u32 n0 h s w) {g : Nat} (hg : ∀ k, h.B k → k ≠ g) (i : Nat) (u : Value) : PM t u16 u32 n0 h s (w.setCell ⟨g, i, none⟩ u) :=
  p.upd ((Upd.refl (· = g) w).setCell (p := ⟨g, i, none⟩) (fun _ => rfl) u) fun k hk e => hg k hk e
theorem below_upd {X : Nat → Prop} {W w w' : World} (h : Below W.heap.size W w) (hu : Upd X w w') (hX : ∀ k, X k → W.heap.size ≤ k) : Below W.heap.size W w' := Below.trans h (hu.below h.size hX)
theorem own_cell {w : World} {base : Nat} {e : TypeId} {k : IntKind} {zs : List Int} {g c : Nat} (ho : w.ownsRow base e 1 (.slice (some ⟨g, 0, none⟩) zs.length c) zs.length (zs.map (.int k))) {i : Nat} (hi : i < zs.length) : w.cell? ⟨g, i, none⟩ = some (.int k (zs.getD i 0)) := by
  rw [ho.cellAt i (by omega), List.getElem?_map, List.getElem?_eq_getElem hi]
  simp [List.getD, List.getElem?_eq_getElem hi]
def so (C T : List Int) (u : Int) (d : Nat) (b : Int) : St := ⟨C, [u, 0], T, d, b⟩
theorem so_set (C T : List Int) (u : Int) : setS ⟨C, noughts 2, T, 0, 0⟩ 0 u = so C T u 0 0 := rfl
theorem so_word (C T : List Int) (u : Int) (d : Nat) (b : Int) : wordV (so C T u d b) 0 = .tuple #[.int .u32 u, .bool true] := rfl
theorem so_port (C T : List Int) (u : Int) : (0 < T.length → lookV (so C T u 0 0) 1073741824 = (T.getD 0 0, 0) ∧ loadS (so C T u 0 0) 1073741824 = so C T u 1 (T.getD 0 0)) ∧ (T.length = 0 → lookV (so C T u 0 0) 1073741824 = (0, 51) ∧ loadS (so C T u 0 0) 1073741824 = so C T u 0 0) := by
  have e : lookV (so C T u 0 0) 1073741824 = if 0 < T.length then (T.getD 0 0, 0) else (0, 51) := by
    unfold lookV
    rw [if_pos rfl]
    rfl
  refine ⟨fun h => ?_, fun h => ?_⟩
  · rw [if_pos h] at e
    refine ⟨e, ?_⟩
    unfold loadS
    rw [e, if_pos rfl, if_pos rfl]
    rfl
  · rw [if_neg (by omega)] at e
    refine ⟨e, ?_⟩
    unfold loadS
    rw [e, if_neg (by decide)]
end Go.Proofs.Ytldfnjjgacieoaa.Mm
namespace Go.Proofs.Ytldfnjjgacieoaa.memOwn
open Go.ChangeShapes Go.WideShapes Go.ChangeAt Go.RowKit Args Mm
set_option linter.unusedVariables false
set_option maxRecDepth 100000 in
set_option maxHeartbeats 8000000 in
theorem w11 (W : World) (A : Option Addr) (cap : Nat) (zs : List Int) (B : Option Addr) (cap2 : Nat) (ys : List Int) (C T : List Int) (u : Int) (hu : 0 ≤ u ∧ u < 4294967296) (hf : Fit ⟨C, noughts 2, T, 0, 0⟩) (htl : T.length ≤ 100)
    (hC : 0 < C.length) (hT : 0 < T.length)
    (hsh : Calls Try.prog 8 #[.slice A zs.length cap, .slice B ys.length cap2] W (ShortEnd C T W)) :
    Calls Try.prog 6 #[.slice A zs.length cap, .slice B ys.length cap2, .int .u32 u] W fun e w' => e = .returned (.bool true) ∧ Below W.heap.size W w' := by
  have hnw := fun A1 c1 A3 c3 w h1 h3 g1 g2 => new_c A1 c1 C 2 A3 c3 T w h1 h3 g1 g2 hf (by omega)
  have y0 := fun s : St => fun hc : s.C = C => (by rw [fetch_code s 0 0 (by decide) (by decide), hc, if_pos hC] : fetchV s 0 = (C.getD 0 0, 0))
  have y1 := (so_port C T u).1 hT
  have hl : (so C T u 0 0).W.length = 2 := rfl
  have hc1 := fun (w : World) (base : Nat) (g c1 : Nat) => fun ho : w.ownsRow base 38 1 (.slice (some ⟨g, 0, none⟩) C.length c1) C.length (C.map (.int .u16)) => own_cell ho hC
  have hb1 := getD_in hf.c (i := 0) hC
  simp only at hb1
  generalize C.getD 0 0 = x at *
  have hC2 : (0 : Int) < (C.length : Int) := by omega
  have ht1 := fun (w : World) (base : Nat) (g c1 : Nat) => fun ho : w.ownsRow base 31 1 (.slice (some ⟨g, 0, none⟩) T.length c1) T.length (T.map (.int .u32)) => own_cell ho hT
  have hbt := getD_in hf.t (i := 0) hT
  simp only at hbt
  generalize T.getD 0 0 = y at *
  have hT2 : (0 : Int) < (T.length : Int) := by omega
  have HS := Lib.hid hsh; have HN := Lib.hid hnw; have Y0 := Lib.hid y0; have Y1 := Lib.hid y1.1; have Y2 := Lib.hid y1.2; have HL := Lib.hid hl; have HC := Lib.hid hC; have HT := Lib.hid hT; have HC1 := Lib.hid hc1; have HT1 := Lib.hid ht1
  clear hsh hnw y0 y1 hl hf htl hC hc1 hT ht1
  go_enter Try.func6, Try.ntmps6
  go_wp2_with fail
  refine HS.out.mono ?_
  rintro e w1 ⟨A1, c1, A3, c3, rfl, h1, h2, h3, h4, ho1, ho3, hsep, hx⟩
  have H1 := Lib.hid h1; have H2 := Lib.hid h2
  have HX := Lib.hid hx; have HO1 := Lib.hid ho1; have HO3 := Lib.hid ho3; have HSEP := Lib.hid hsep
  clear hx ho1 ho3 hsep h1 h2 h3 h4 HS
  go_wp2_with fail
  refine (HN.out _ _ _ _ _ (lies_own HO1.out) (lies_own HO3.out) H1.out H2.out).mono ?_
  rintro e w3 ⟨h, rfl, hp, hx⟩
  have HX3 := Lib.hid (HX.out.trans hx); have HP := Lib.hid hp
  have HLOW := Lib.hid (show ∀ k, h.X k → W.heap.size ≤ k from fun k hk => Nat.le_trans HX.out.size (hp.X_low k hk))
  have HNX := Lib.hid (show ∀ k, h.X k → w1.heap.size ≤ k from hp.X_low)
  have HOO1 := Lib.hid (Ext.own hx HO1.out)
  have HOO3 := Lib.hid (Ext.own hx HO3.out)
  clear hx hp HN
  go_wp2_with fail
  refine (Mm.set _ h _ _ 0 u hu HP.out).mono ?_
  rintro e w4 ⟨rfl, hp4, hu4⟩
  rw [so_set] at hp4
  rw [show decide ((0 : Int) ≤ 0 ∧ (0 : Int) < ((noughts 2).length : Int)) = true by decide]
  have HP4 := Lib.hid hp4; have HB4 := Lib.hid (below_upd HX3.out hu4 HLOW.out)
  rcases own_form HO1.out with ⟨_, h0, _⟩ | ⟨g1, rfl, gl1, gh1⟩
  · exact absurd h0 (by have := HC.out; omega)
  have HG1 := Lib.hid gl1; have HGH1 := Lib.hid gh1
  have ho1 := own_upd HOO1.out hu4 (fun k e hk => by cases e; have := HNX.out _ hk; omega)
  have k1 : w4.cell? ⟨g1, 0, none⟩ = some (.int .u16 x) := HC1.out _ _ _ _ ho1
  have z1 : w4.frozen? ⟨g1, 0, none⟩ = false := ho1.frozenAt 0
  clear ho1 gl1 gh1
  rcases own_form HO3.out with ⟨_, h0, _⟩ | ⟨g3, rfl, gl3, gh3⟩
  · exact absurd h0 (by have := HT.out; omega)
  have HG3 := Lib.hid gl3; have HGH3 := Lib.hid gh3
  have ho3 := own_upd HOO3.out hu4 (fun k e hk => by cases e; have := HNX.out _ hk; omega)
  have k3 : w4.cell? ⟨g3, 0, none⟩ = some (.int .u32 y) := HT1.out _ _ _ _ ho3
  have z3 : w4.frozen? ⟨g3, 0, none⟩ = false := ho3.frozenAt 0
  clear ho3 gl3 gh3
  have n13 : g1 ≠ g3 := fun e => HSEP.out g1 rfl (by rw [e])
  have n31 : g3 ≠ g1 := fun e => n13 e.symm
  clear hp4 hu4 HP HX3
  go_wp2_with fail
  refine (Mm.words _ h _ _ (pp_far (pp_far HP4.out (.inl HGH1.out) 0 _) (.inl HGH3.out) 0 _)).mono ?_
  rintro e w5 ⟨A5, c5, rfl, ho5, hx5⟩
  have hp5 := PM.below (pp_far (pp_far HP4.out (.inl HGH1.out) 0 _) (.inl HGH3.out) 0 _) hx5
  have hb5 := Below.trans ((HB4.out.setCell (p := ⟨g1, 0, none⟩) HG1.out _).setCell (p := ⟨g3, 0, none⟩) HG3.out _) (Below.mono hx5 (by first | exact HB4.out.size | (simp only [World.size_setCell]; exact HB4.out.size)))
  rcases own_form ho5 with ⟨_, h0, _⟩ | ⟨g5, rfl, gl5, gh5⟩
  · cases h0
  have k5 : w5.cell? ⟨g5, 0, none⟩ = some (.int .u32 u) := own_cell ho5 (i := 0) (show 0 < 2 from Nat.succ_pos 1)
  have z5 : w5.frozen? ⟨g5, 0, none⟩ = false := ho5.frozenAt 0
  try simp only [World.size_setCell] at gl5
  have HNE := Lib.hid (show ∀ k, h.B k → k ≠ g5 from fun k hk e => by have := (PM.lt HP4.out hk).2; omega)
  have HG5 := Lib.hid (Nat.le_trans HB4.out.size gl5)
  have HP5 := Lib.hid hp5; have HB5 := Lib.hid hb5
  rw [HL.out]
  clear hp5 hb5 ho5 hx5 gl5 gh5 k1 z1  k3 z3 
  go_wp2_with fail
  refine (Mm.fetch _ h _ _ 0 (pp_off HP5.out HNE.out 0 _)).mono ?_
  rintro e w6 ⟨rfl, n6, rfl⟩
  rw [Y0.out _ rfl]
  have HP6 := Lib.hid ((pp_off HP5.out HNE.out 0 (.int .u32 (IntKind.u32.wrap (u + 1)))).drewN n6)
  have HB6 := Lib.hid ((HB5.out.setCell (p := ⟨g5, 0, none⟩) HG5.out (.int .u32 (IntKind.u32.wrap (u + 1)))).trans (Below.mono (show Ext _ _ from Upd.below (upd_drewN (fun _ => False) _ n6) (Nat.le_refl _) nofun) (Below.size (HB5.out.setCell (p := ⟨g5, 0, none⟩) HG5.out (.int .u32 (IntKind.u32.wrap (u + 1)))))))
  clear HP5 HB5 k5 z5
  go_wp2_with fail
  refine (Mm.load _ h _ _ _ HP6.out).mono ?_
  rintro e w7 ⟨rfl, hp7, hu7⟩
  rw [Y1.out]
  rw [Y2.out] at hp7
  have HP7 := Lib.hid hp7; have HB7 := Lib.hid (below_upd HB6.out hu7 HLOW.out)
  clear hp7 hu7 HP6 HB6
  go_wp2_with fail
  refine (Mm.word _ h _ _ 0 HP7.out).mono ?_
  rintro e w8 ⟨rfl, n8, rfl⟩
  rw [so_word]
  have HB8 := Lib.hid (HB7.out.trans (Below.mono (show Ext _ _ from Upd.below (upd_drewN (fun _ => False) w7 n8) (Nat.le_refl _) nofun) HB7.out.size))
  clear HB7
  generalize w7.drewN n8 = w8 at *
  go_wp2_with fail
  refine (Mm.lives _).mono ?_
  rintro e w9 ⟨rfl, hb9⟩
  have HB9 := Lib.hid (HB8.out.trans (hb9.mono HB8.out.size))
  clear hb9
  go_wp2_with fail
  go_ret
  exact ⟨rfl, HB9.out⟩
set_option maxRecDepth 100000 in
set_option maxHeartbeats 8000000 in
theorem w10 (W : World) (A : Option Addr) (cap : Nat) (zs : List Int) (B : Option Addr) (cap2 : Nat) (ys : List Int) (C T : List Int) (u : Int) (hu : 0 ≤ u ∧ u < 4294967296) (hf : Fit ⟨C, noughts 2, T, 0, 0⟩) (htl : T.length ≤ 100)
    (hC : 0 < C.length) (hT : T.length = 0)
    (hsh : Calls Try.prog 8 #[.slice A zs.length cap, .slice B ys.length cap2] W (ShortEnd C T W)) :
    Calls Try.prog 6 #[.slice A zs.length cap, .slice B ys.length cap2, .int .u32 u] W fun e w' => e = .returned (.bool true) ∧ Below W.heap.size W w' := by
  have hnw := fun A1 c1 A3 c3 w h1 h3 g1 g2 => new_c A1 c1 C 2 A3 c3 T w h1 h3 g1 g2 hf (by omega)
  have y0 := fun s : St => fun hc : s.C = C => (by rw [fetch_code s 0 0 (by decide) (by decide), hc, if_pos hC] : fetchV s 0 = (C.getD 0 0, 0))
  have y1 := (so_port C T u).2 hT
  have hl : (so C T u 0 0).W.length = 2 := rfl
  have hc1 := fun (w : World) (base : Nat) (g c1 : Nat) => fun ho : w.ownsRow base 38 1 (.slice (some ⟨g, 0, none⟩) C.length c1) C.length (C.map (.int .u16)) => own_cell ho hC
  have hb1 := getD_in hf.c (i := 0) hC
  simp only at hb1
  generalize C.getD 0 0 = x at *
  have hC2 : (0 : Int) < (C.length : Int) := by omega
  have hTn := hT
  obtain rfl := List.eq_nil_of_length_eq_zero hT
  have HS := Lib.hid hsh; have HN := Lib.hid hnw; have Y0 := Lib.hid y0; have Y1 := Lib.hid y1.1; have Y2 := Lib.hid y1.2; have HL := Lib.hid hl; have HC := Lib.hid hC; have HC1 := Lib.hid hc1
  clear hsh hnw y0 y1 hl hf htl hC hc1 hTn hT
  go_enter Try.func6, Try.ntmps6
  go_wp2_with fail
  refine HS.out.mono ?_
  rintro e w1 ⟨A1, c1, A3, c3, rfl, h1, h2, h3, h4, ho1, ho3, hsep, hx⟩
  have H1 := Lib.hid h1; have H2 := Lib.hid h2
  have HX := Lib.hid hx; have HO1 := Lib.hid ho1; have HO3 := Lib.hid ho3; have HSEP := Lib.hid hsep
  clear hx ho1 ho3 hsep h1 h2 h3 h4 HS
  go_wp2_with fail
  refine (HN.out _ _ _ _ _ (lies_own HO1.out) (lies_own HO3.out) H1.out H2.out).mono ?_
  rintro e w3 ⟨h, rfl, hp, hx⟩
  have HX3 := Lib.hid (HX.out.trans hx); have HP := Lib.hid hp
  have HLOW := Lib.hid (show ∀ k, h.X k → W.heap.size ≤ k from fun k hk => Nat.le_trans HX.out.size (hp.X_low k hk))
  have HNX := Lib.hid (show ∀ k, h.X k → w1.heap.size ≤ k from hp.X_low)
  have HOO1 := Lib.hid (Ext.own hx HO1.out)
  have HOO3 := Lib.hid (Ext.own hx HO3.out)
  clear hx hp HN
  go_wp2_with fail
  refine (Mm.set _ h _ _ 0 u hu HP.out).mono ?_
  rintro e w4 ⟨rfl, hp4, hu4⟩
  rw [so_set] at hp4
  rw [show decide ((0 : Int) ≤ 0 ∧ (0 : Int) < ((noughts 2).length : Int)) = true by decide]
  have HP4 := Lib.hid hp4; have HB4 := Lib.hid (below_upd HX3.out hu4 HLOW.out)
  rcases own_form HO1.out with ⟨_, h0, _⟩ | ⟨g1, rfl, gl1, gh1⟩
  · exact absurd h0 (by have := HC.out; omega)
  have HG1 := Lib.hid gl1; have HGH1 := Lib.hid gh1
  have ho1 := own_upd HOO1.out hu4 (fun k e hk => by cases e; have := HNX.out _ hk; omega)
  have k1 : w4.cell? ⟨g1, 0, none⟩ = some (.int .u16 x) := HC1.out _ _ _ _ ho1
  have z1 : w4.frozen? ⟨g1, 0, none⟩ = false := ho1.frozenAt 0
  clear ho1 gl1 gh1
  clear hp4 hu4 HP HX3
  go_wp2_with fail
  refine (Mm.words _ h _ _ (pp_far HP4.out (.inl HGH1.out) 0 _)).mono ?_
  rintro e w5 ⟨A5, c5, rfl, ho5, hx5⟩
  have hp5 := PM.below (pp_far HP4.out (.inl HGH1.out) 0 _) hx5
  have hb5 := Below.trans (HB4.out.setCell (p := ⟨g1, 0, none⟩) HG1.out _) (Below.mono hx5 (by first | exact HB4.out.size | (simp only [World.size_setCell]; exact HB4.out.size)))
  rcases own_form ho5 with ⟨_, h0, _⟩ | ⟨g5, rfl, gl5, gh5⟩
  · cases h0
  have k5 : w5.cell? ⟨g5, 0, none⟩ = some (.int .u32 u) := own_cell ho5 (i := 0) (show 0 < 2 from Nat.succ_pos 1)
  have z5 : w5.frozen? ⟨g5, 0, none⟩ = false := ho5.frozenAt 0
  try simp only [World.size_setCell] at gl5
  have HNE := Lib.hid (show ∀ k, h.B k → k ≠ g5 from fun k hk e => by have := (PM.lt HP4.out hk).2; omega)
  have HG5 := Lib.hid (Nat.le_trans HB4.out.size gl5)
  have HP5 := Lib.hid hp5; have HB5 := Lib.hid hb5
  rw [HL.out]
  clear hp5 hb5 ho5 hx5 gl5 gh5 k1 z1 
  go_wp2_with fail
  refine (Mm.fetch _ h _ _ 0 (pp_off HP5.out HNE.out 0 _)).mono ?_
  rintro e w6 ⟨rfl, n6, rfl⟩
  rw [Y0.out _ rfl]
  have HP6 := Lib.hid ((pp_off HP5.out HNE.out 0 (.int .u32 (IntKind.u32.wrap (u + 1)))).drewN n6)
  have HB6 := Lib.hid ((HB5.out.setCell (p := ⟨g5, 0, none⟩) HG5.out (.int .u32 (IntKind.u32.wrap (u + 1)))).trans (Below.mono (show Ext _ _ from Upd.below (upd_drewN (fun _ => False) _ n6) (Nat.le_refl _) nofun) (Below.size (HB5.out.setCell (p := ⟨g5, 0, none⟩) HG5.out (.int .u32 (IntKind.u32.wrap (u + 1)))))))
  clear HP5 HB5 k5 z5
  go_wp2_with fail
  refine (Mm.load _ h _ _ _ HP6.out).mono ?_
  rintro e w7 ⟨rfl, hp7, hu7⟩
  rw [Y1.out]
  rw [Y2.out] at hp7
  have HP7 := Lib.hid hp7; have HB7 := Lib.hid (below_upd HB6.out hu7 HLOW.out)
  clear hp7 hu7 HP6 HB6
  go_wp2_with fail
  refine (Mm.word _ h _ _ 0 HP7.out).mono ?_
  rintro e w8 ⟨rfl, n8, rfl⟩
  rw [so_word]
  have HB8 := Lib.hid (HB7.out.trans (Below.mono (show Ext _ _ from Upd.below (upd_drewN (fun _ => False) w7 n8) (Nat.le_refl _) nofun) HB7.out.size))
  clear HB7
  generalize w7.drewN n8 = w8 at *
  go_wp2_with fail
  refine (Mm.lives _).mono ?_
  rintro e w9 ⟨rfl, hb9⟩
  have HB9 := Lib.hid (HB8.out.trans (hb9.mono HB8.out.size))
  clear hb9
  go_wp2_with fail
  go_ret
  exact ⟨rfl, HB9.out⟩
set_option maxRecDepth 100000 in
set_option maxHeartbeats 8000000 in
theorem w01 (W : World) (A : Option Addr) (cap : Nat) (zs : List Int) (B : Option Addr) (cap2 : Nat) (ys : List Int) (C T : List Int) (u : Int) (hu : 0 ≤ u ∧ u < 4294967296) (hf : Fit ⟨C, noughts 2, T, 0, 0⟩) (htl : T.length ≤ 100)
    (hC : C.length = 0) (hT : 0 < T.length)
    (hsh : Calls Try.prog 8 #[.slice A zs.length cap, .slice B ys.length cap2] W (ShortEnd C T W)) :
    Calls Try.prog 6 #[.slice A zs.length cap, .slice B ys.length cap2, .int .u32 u] W fun e w' => e = .returned (.bool true) ∧ Below W.heap.size W w' := by
  have hnw := fun A1 c1 A3 c3 w h1 h3 g1 g2 => new_c A1 c1 C 2 A3 c3 T w h1 h3 g1 g2 hf (by omega)
  have y0 := fun s : St => fun hc : s.C = C => (by rw [fetch_code s 0 0 (by decide) (by decide), hc, if_neg (by omega)] : fetchV s 0 = (0, 50))
  have y1 := (so_port C T u).1 hT
  have hl : (so C T u 0 0).W.length = 2 := rfl
  have hCn := hC
  obtain rfl := List.eq_nil_of_length_eq_zero hC
  have ht1 := fun (w : World) (base : Nat) (g c1 : Nat) => fun ho : w.ownsRow base 31 1 (.slice (some ⟨g, 0, none⟩) T.length c1) T.length (T.map (.int .u32)) => own_cell ho hT
  have hbt := getD_in hf.t (i := 0) hT
  simp only at hbt
  generalize T.getD 0 0 = y at *
  have hT2 : (0 : Int) < (T.length : Int) := by omega
  have HS := Lib.hid hsh; have HN := Lib.hid hnw; have Y0 := Lib.hid y0; have Y1 := Lib.hid y1.1; have Y2 := Lib.hid y1.2; have HL := Lib.hid hl; have HT := Lib.hid hT; have HT1 := Lib.hid ht1
  clear hsh hnw y0 y1 hl hf htl hCn hC hT ht1
  go_enter Try.func6, Try.ntmps6
  go_wp2_with fail
  refine HS.out.mono ?_
  rintro e w1 ⟨A1, c1, A3, c3, rfl, h1, h2, h3, h4, ho1, ho3, hsep, hx⟩
  have H1 := Lib.hid h1; have H2 := Lib.hid h2
  have HX := Lib.hid hx; have HO1 := Lib.hid ho1; have HO3 := Lib.hid ho3; have HSEP := Lib.hid hsep
  clear hx ho1 ho3 hsep h1 h2 h3 h4 HS
  go_wp2_with fail
  refine (HN.out _ _ _ _ _ (lies_own HO1.out) (lies_own HO3.out) H1.out H2.out).mono ?_
  rintro e w3 ⟨h, rfl, hp, hx⟩
  have HX3 := Lib.hid (HX.out.trans hx); have HP := Lib.hid hp
  have HLOW := Lib.hid (show ∀ k, h.X k → W.heap.size ≤ k from fun k hk => Nat.le_trans HX.out.size (hp.X_low k hk))
  have HNX := Lib.hid (show ∀ k, h.X k → w1.heap.size ≤ k from hp.X_low)
  have HOO1 := Lib.hid (Ext.own hx HO1.out)
  have HOO3 := Lib.hid (Ext.own hx HO3.out)
  clear hx hp HN
  go_wp2_with fail
  refine (Mm.set _ h _ _ 0 u hu HP.out).mono ?_
  rintro e w4 ⟨rfl, hp4, hu4⟩
  rw [so_set] at hp4
  rw [show decide ((0 : Int) ≤ 0 ∧ (0 : Int) < ((noughts 2).length : Int)) = true by decide]
  have HP4 := Lib.hid hp4; have HB4 := Lib.hid (below_upd HX3.out hu4 HLOW.out)
  rcases own_form HO3.out with ⟨_, h0, _⟩ | ⟨g3, rfl, gl3, gh3⟩
  · exact absurd h0 (by have := HT.out; omega)
  have HG3 := Lib.hid gl3; have HGH3 := Lib.hid gh3
  have ho3 := own_upd HOO3.out hu4 (fun k e hk => by cases e; have := HNX.out _ hk; omega)
  have k3 : w4.cell? ⟨g3, 0, none⟩ = some (.int .u32 y) := HT1.out _ _ _ _ ho3
  have z3 : w4.frozen? ⟨g3, 0, none⟩ = false := ho3.frozenAt 0
  clear ho3 gl3 gh3
  clear hp4 hu4 HP HX3
  go_wp2_with fail
  refine (Mm.words _ h _ _ (pp_far HP4.out (.inl HGH3.out) 0 _)).mono ?_
  rintro e w5 ⟨A5, c5, rfl, ho5, hx5⟩
  have hp5 := PM.below (pp_far HP4.out (.inl HGH3.out) 0 _) hx5
  have hb5 := Below.trans (HB4.out.setCell (p := ⟨g3, 0, none⟩) HG3.out _) (Below.mono hx5 (by first | exact HB4.out.size | (simp only [World.size_setCell]; exact HB4.out.size)))
  rcases own_form ho5 with ⟨_, h0, _⟩ | ⟨g5, rfl, gl5, gh5⟩
  · cases h0
  have k5 : w5.cell? ⟨g5, 0, none⟩ = some (.int .u32 u) := own_cell ho5 (i := 0) (show 0 < 2 from Nat.succ_pos 1)
  have z5 : w5.frozen? ⟨g5, 0, none⟩ = false := ho5.frozenAt 0
  try simp only [World.size_setCell] at gl5
  have HNE := Lib.hid (show ∀ k, h.B k → k ≠ g5 from fun k hk e => by have := (PM.lt HP4.out hk).2; omega)
  have HG5 := Lib.hid (Nat.le_trans HB4.out.size gl5)
  have HP5 := Lib.hid hp5; have HB5 := Lib.hid hb5
  rw [HL.out]
  clear hp5 hb5 ho5 hx5 gl5 gh5 k3 z3 
  go_wp2_with fail
  refine (Mm.fetch _ h _ _ 0 (pp_off HP5.out HNE.out 0 _)).mono ?_
  rintro e w6 ⟨rfl, n6, rfl⟩
  rw [Y0.out _ rfl]
  have HP6 := Lib.hid ((pp_off HP5.out HNE.out 0 (.int .u32 (IntKind.u32.wrap (u + 1)))).drewN n6)
  have HB6 := Lib.hid ((HB5.out.setCell (p := ⟨g5, 0, none⟩) HG5.out (.int .u32 (IntKind.u32.wrap (u + 1)))).trans (Below.mono (show Ext _ _ from Upd.below (upd_drewN (fun _ => False) _ n6) (Nat.le_refl _) nofun) (Below.size (HB5.out.setCell (p := ⟨g5, 0, none⟩) HG5.out (.int .u32 (IntKind.u32.wrap (u + 1)))))))
  clear HP5 HB5 k5 z5
  go_wp2_with fail
  refine (Mm.load _ h _ _ _ HP6.out).mono ?_
  rintro e w7 ⟨rfl, hp7, hu7⟩
  rw [Y1.out]
  rw [Y2.out] at hp7
  have HP7 := Lib.hid hp7; have HB7 := Lib.hid (below_upd HB6.out hu7 HLOW.out)
  clear hp7 hu7 HP6 HB6
  go_wp2_with fail
  refine (Mm.word _ h _ _ 0 HP7.out).mono ?_
  rintro e w8 ⟨rfl, n8, rfl⟩
  rw [so_word]
  have HB8 := Lib.hid (HB7.out.trans (Below.mono (show Ext _ _ from Upd.below (upd_drewN (fun _ => False) w7 n8) (Nat.le_refl _) nofun) HB7.out.size))
  clear HB7
  generalize w7.drewN n8 = w8 at *
  go_wp2_with fail
  refine (Mm.lives _).mono ?_
  rintro e w9 ⟨rfl, hb9⟩
  have HB9 := Lib.hid (HB8.out.trans (hb9.mono HB8.out.size))
  clear hb9
  go_wp2_with fail
  go_ret
  exact ⟨rfl, HB9.out⟩
set_option maxRecDepth 100000 in
set_option maxHeartbeats 8000000 in
theorem w00 (W : World) (A : Option Addr) (cap : Nat) (zs : List Int) (B : Option Addr) (cap2 : Nat) (ys : List Int) (C T : List Int) (u : Int) (hu : 0 ≤ u ∧ u < 4294967296) (hf : Fit ⟨C, noughts 2, T, 0, 0⟩) (htl : T.length ≤ 100)
    (hC : C.length = 0) (hT : T.length = 0)
    (hsh : Calls Try.prog 8 #[.slice A zs.length cap, .slice B ys.length cap2] W (ShortEnd C T W)) :
    Calls Try.prog 6 #[.slice A zs.length cap, .slice B ys.length cap2, .int .u32 u] W fun e w' => e = .returned (.bool true) ∧ Below W.heap.size W w' := by
  have hnw := fun A1 c1 A3 c3 w h1 h3 g1 g2 => new_c A1 c1 C 2 A3 c3 T w h1 h3 g1 g2 hf (by omega)
  have y0 := fun s : St => fun hc : s.C = C => (by rw [fetch_code s 0 0 (by decide) (by decide), hc, if_neg (by omega)] : fetchV s 0 = (0, 50))
  have y1 := (so_port C T u).2 hT
  have hl : (so C T u 0 0).W.length = 2 := rfl
  have hCn := hC
  obtain rfl := List.eq_nil_of_length_eq_zero hC
  have hTn := hT
  obtain rfl := List.eq_nil_of_length_eq_zero hT
  have HS := Lib.hid hsh; have HN := Lib.hid hnw; have Y0 := Lib.hid y0; have Y1 := Lib.hid y1.1; have Y2 := Lib.hid y1.2; have HL := Lib.hid hl
  clear hsh hnw y0 y1 hl hf htl hCn hC hTn hT
  go_enter Try.func6, Try.ntmps6
  go_wp2_with fail
  refine HS.out.mono ?_
  rintro e w1 ⟨A1, c1, A3, c3, rfl, h1, h2, h3, h4, ho1, ho3, hsep, hx⟩
  have H1 := Lib.hid h1; have H2 := Lib.hid h2
  have HX := Lib.hid hx; have HO1 := Lib.hid ho1; have HO3 := Lib.hid ho3; have HSEP := Lib.hid hsep
  clear hx ho1 ho3 hsep h1 h2 h3 h4 HS
  go_wp2_with fail
  refine (HN.out _ _ _ _ _ (lies_own HO1.out) (lies_own HO3.out) H1.out H2.out).mono ?_
  rintro e w3 ⟨h, rfl, hp, hx⟩
  have HX3 := Lib.hid (HX.out.trans hx); have HP := Lib.hid hp
  have HLOW := Lib.hid (show ∀ k, h.X k → W.heap.size ≤ k from fun k hk => Nat.le_trans HX.out.size (hp.X_low k hk))
  have HNX := Lib.hid (show ∀ k, h.X k → w1.heap.size ≤ k from hp.X_low)
  have HOO1 := Lib.hid (Ext.own hx HO1.out)
  have HOO3 := Lib.hid (Ext.own hx HO3.out)
  clear hx hp HN
  go_wp2_with fail
  refine (Mm.set _ h _ _ 0 u hu HP.out).mono ?_
  rintro e w4 ⟨rfl, hp4, hu4⟩
  rw [so_set] at hp4
  rw [show decide ((0 : Int) ≤ 0 ∧ (0 : Int) < ((noughts 2).length : Int)) = true by decide]
  have HP4 := Lib.hid hp4; have HB4 := Lib.hid (below_upd HX3.out hu4 HLOW.out)
  clear hp4 hu4 HP HX3
  go_wp2_with fail
  refine (Mm.words _ h _ _ HP4.out).mono ?_
  rintro e w5 ⟨A5, c5, rfl, ho5, hx5⟩
  have hp5 := PM.below HP4.out hx5
  have hb5 := Below.trans HB4.out (Below.mono hx5 (by first | exact HB4.out.size | (simp only [World.size_setCell]; exact HB4.out.size)))
  rcases own_form ho5 with ⟨_, h0, _⟩ | ⟨g5, rfl, gl5, gh5⟩
  · cases h0
  have k5 : w5.cell? ⟨g5, 0, none⟩ = some (.int .u32 u) := own_cell ho5 (i := 0) (show 0 < 2 from Nat.succ_pos 1)
  have z5 : w5.frozen? ⟨g5, 0, none⟩ = false := ho5.frozenAt 0
  try simp only [World.size_setCell] at gl5
  have HNE := Lib.hid (show ∀ k, h.B k → k ≠ g5 from fun k hk e => by have := (PM.lt HP4.out hk).2; omega)
  have HG5 := Lib.hid (Nat.le_trans HB4.out.size gl5)
  have HP5 := Lib.hid hp5; have HB5 := Lib.hid hb5
  rw [HL.out]
  clear hp5 hb5 ho5 hx5 gl5 gh5
  go_wp2_with fail
  refine (Mm.fetch _ h _ _ 0 (pp_off HP5.out HNE.out 0 _)).mono ?_
  rintro e w6 ⟨rfl, n6, rfl⟩
  rw [Y0.out _ rfl]
  have HP6 := Lib.hid ((pp_off HP5.out HNE.out 0 (.int .u32 (IntKind.u32.wrap (u + 1)))).drewN n6)
  have HB6 := Lib.hid ((HB5.out.setCell (p := ⟨g5, 0, none⟩) HG5.out (.int .u32 (IntKind.u32.wrap (u + 1)))).trans (Below.mono (show Ext _ _ from Upd.below (upd_drewN (fun _ => False) _ n6) (Nat.le_refl _) nofun) (Below.size (HB5.out.setCell (p := ⟨g5, 0, none⟩) HG5.out (.int .u32 (IntKind.u32.wrap (u + 1)))))))
  clear HP5 HB5 k5 z5
  go_wp2_with fail
  refine (Mm.load _ h _ _ _ HP6.out).mono ?_
  rintro e w7 ⟨rfl, hp7, hu7⟩
  rw [Y1.out]
  rw [Y2.out] at hp7
  have HP7 := Lib.hid hp7; have HB7 := Lib.hid (below_upd HB6.out hu7 HLOW.out)
  clear hp7 hu7 HP6 HB6
  go_wp2_with fail
  refine (Mm.word _ h _ _ 0 HP7.out).mono ?_
  rintro e w8 ⟨rfl, n8, rfl⟩
  rw [so_word]
  have HB8 := Lib.hid (HB7.out.trans (Below.mono (show Ext _ _ from Upd.below (upd_drewN (fun _ => False) w7 n8) (Nat.le_refl _) nofun) HB7.out.size))
  clear HB7
  generalize w7.drewN n8 = w8 at *
  go_wp2_with fail
  refine (Mm.lives _).mono ?_
  rintro e w9 ⟨rfl, hb9⟩
  have HB9 := Lib.hid (HB8.out.trans (hb9.mono HB8.out.size))
  clear hb9
  go_wp2_with fail
  go_ret
  exact ⟨rfl, HB9.out⟩
theorem walk (W : World) (v : Value) (zs : List Int) (hv : Ints .u16 2 W v zs) (v2 : Value) (ys : List Int) (hv2 : Ints .u32 4 W v2 ys) (u : Int) (hu : (Lit.int .u32 u).wf = true) :
    Calls Try.prog 6 #[v, v2, .int .u32 u] W fun e w' => e = .returned (.bool true) ∧ Below W.heap.size W w' := by
  obtain ⟨A, cap, rfl, hlc, hcm, hL⟩ := hv.ex
  obtain ⟨B, cap2, rfl, hlc2, hcm2, hL2⟩ := hv2.ex
  have hsh := short_w A cap zs B cap2 ys W hL hL2 hlc hcm hlc2 hcm2
  have hf : Fit ⟨zs.take 300, noughts 2, ys.take 100, 0, 0⟩ := fit_take 2 hv.wf hv2.wf (by decide)
  have htl : (ys.take 100).length ≤ 100 := by rw [List.length_take]; omega
  generalize zs.take 300 = C at hsh hf
  generalize ys.take 100 = T at hsh hf htl
  by_cases hC : 0 < C.length <;> by_cases hT : 0 < T.length
  · exact w11 W A cap zs B cap2 ys C T u (wf_u32 hu) hf htl hC hT hsh
  · exact w10 W A cap zs B cap2 ys C T u (wf_u32 hu) hf htl hC (by omega) hsh
  · exact w01 W A cap zs B cap2 ys C T u (wf_u32 hu) hf htl (by omega) hT hsh
  · exact w00 W A cap zs B cap2 ys C T u (wf_u32 hu) hf htl (by omega) (by omega) hsh
end Go.Proofs.Ytldfnjjgacieoaa.memOwn
