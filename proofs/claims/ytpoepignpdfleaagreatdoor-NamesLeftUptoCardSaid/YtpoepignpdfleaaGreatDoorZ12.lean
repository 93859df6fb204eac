/- DERIVED. NmEx, NmIn in one text. By an AI agent. -/
import Derived.Test.YtpoepignpdfleaaGreatDoorZ10
/- DERIVED. The checker's exprs: where an expression is wrong first. By an AI agent. -/
namespace Go.Proofs.YtpoepignpdfleaaGreatDoor.Nm
open Go Go.ChangeShapes Go.WideShapes Go.ChangeAt Go.RowKit Lx Args Pa Sh
set_option linter.unusedVariables false
set_option linter.unusedSimpArgs false
/-- What tells names, as a value. -/
structure IsN (w : World) (G : FuncId) (r : Value) (isN : Bs → Bool) : Prop where
  enter : ∀ (a : Value) (w : World), (callFunc G #[r, a]).run Tryz.prog w = .ok (.enter G #[r, a]) w
  call : ∀ w', Below w.heap.size w w' → ∀ s : Bs, s.length ≤ maxLen → Calls Tryz.prog G #[r, .string ⟨s.toArray⟩] w' (TellP w' (isN s))
theorem IsN.below {w w' : World} {G : FuncId} {r : Value} {isN : Bs → Bool} (h : IsN w G r isN) (hb : Below w.heap.size w w') : IsN w' G r isN := ⟨h.enter, fun v hv => h.call v (hb.trans (hv.mono hb.size))⟩
/-- One node of an expression. -/
def exF (isN : Bs → Bool) (cal : Bs → Nat → Bool) : Tz → Unit → Int ⊕ Unit
  | .mk k a s _ _ l, _ => if (k = 1 ∧ isN s = false) ∨ (k = 5 ∧ cal s l.length = false) then .inl a else .inr ()
def toS (o : Option Int) : Int ⊕ Unit := match o with | some a => .inl a | none => .inr ()
mutual
theorem fold_ex (isN : Bs → Bool) (cal : Bs → Nat → Bool) : ∀ z, foldT (exF isN cal) z () = toS (exB isN cal z)
  | .mk k a s n ps l => by
    rw [foldT_mk]
    unfold exB
    by_cases h : (k = 1 ∧ isN s = false) ∨ (k = 5 ∧ cal s l.length = false)
    · rw [if_pos h, show exF isN cal (.mk k a s n ps l) () = .inl a from if_pos h]; rfl
    · rw [if_neg h, show exF isN cal (.mk k a s n ps l) () = .inr () from if_neg h]; exact fold_exs isN cal l
theorem fold_exs (isN : Bs → Bool) (cal : Bs → Nat → Bool) : ∀ l, foldTs (exF isN cal) l () = toS (exBs isN cal l)
  | [] => by unfold foldTs exBs; rfl
  | x :: l => by
    rw [foldTs_cons, fold_ex isN cal x]
    unfold exBs
    cases exB isN cal x with
    | some a => rfl
    | none => exact fold_exs isN cal l
end
/-- Behind expressions. -/
def ExP (w : World) (o : Option Int) (e : Ending) (w' : World) : Prop := match o with | some a => e = panW a ∧ Below w.heap.size w w' | none => e = .returned (.tuple #[]) ∧ Below w.heap.size w w'
set_option maxRecDepth 100000 in
set_option maxHeartbeats 4000000 in
theorem exprs1 {wE : World} {g : Nat} {kn : Kn} {G : FuncId} {r : Value} {isN : Bs → Bool} {b1 b2 : Nat} (hk : KnP wE g kn) (hI : IsN wE G r isN) (h1 : wE.cell? ⟨b1, 0, none⟩ = some (.func (.func G) #[r] #[])) (h2 : wE.cell? ⟨b2, 0, none⟩ = some (.pointer (some ⟨g, 0, none⟩)))
    (w : World) (hb : Below wE.heap.size wE w) (k a : Int) (s : Bs) (n : Nat) (A : Option Addr) (la cA : Nat) (B : Option Addr) (lb cB : Nat) (hs : s.length ≤ maxLen) (hla : la ≤ maxLen) :
    Calls Tryz.prog 104 #[nzA k a s n A la cA B lb cB, .pointer (some ⟨b1, 0, none⟩), .pointer (some ⟨b2, 0, none⟩)] w (ExP w (if (k = 1 ∧ isN s = false) ∨ (k = 5 ∧ callB kn s la = false) then some a else none)) := by
  obtain ⟨wn, hwn, hbn, hXn, hsn⟩ := a_box w (nB k a s n A la cA B lb cB)
  have hbE := hb.trans (hbn.mono hb.size)
  have HBX := Lib.hid fun v (hv : Below wE.heap.size wE v) => And.intro ((hv.cell (World.block_lt_of_cell? wE _ h1)).trans h1) ((hv.cell (World.block_lt_of_cell? wE _ h2)).trans h2)
  have HK := Lib.hid fun v (hv : Below wE.heap.size wE v) => isCalled v g kn (hk.below hv) s hs la
  have HN := Lib.hid fun v (hv : Below wE.heap.size wE v) => hI.call v hv s hs
  have hen := hI.enter
  have HBE := Lib.hid hbE; have HWN := Lib.hid hwn; have HBN := Lib.hid hbn; have HXN := Lib.hid hXn
  obtain ⟨⟨e0, e1, e2, e3, e4, e5⟩, z0, z1, z2, z3, z4, z5⟩ := Blk.c6 hXn
  have hlam : la ≤ 9223372036854775807 := hla
  clear hk hI h1 h2 hb hbn hXn hwn hbE hsn hla
  obtain ⟨res, hres⟩ : ∃ res, (if (k = 1 ∧ isN s = false) ∨ (k = 5 ∧ callB kn s la = false) then some a else none) = res := ⟨_, rfl⟩
  rw [hres]
  have HRES := Lib.hid hres
  clear hres
  go_enter Tryz.func104, Tryz.ntmps104
  by_cases hk1 : k = 1
  · subst hk1
    go_wp2_with fail
    rw [HWN.out]
    have hdr : Below wn.heap.size wn wn.drew := Below.drew (Below.refl _ _)
    obtain ⟨wd, hwd⟩ : ∃ v, wn.drew = v := ⟨_, rfl⟩
    rw [hwd] at hdr
    have HXd := Lib.hid (HXN.out.below hdr HXN.out.lt); have HBd := Lib.hid (HBE.out.trans (hdr.mono HBE.out.size)); have HBW := Lib.hid (HBN.out.trans (hdr.mono HBN.out.size))
    clear hdr e0 e1 e2 e3 e4 e5 z0 z1 z2 z3 z4 z5
    have hZ0 : Below wd.heap.size wd wd := Below.refl _ _
    refine HT.wp_region (Z := fun w' => Below wd.heap.size wd w') (S := fun _ => True) (st := []) (by kernel_rfl) ?_
    rw [hwd]
    clear hwd
    refine HT.takeP (i := 0) (v := ?_) rfl (by kernel_rfl) (by kernel_rfl) (by kernel_rfl) (by kernel_rfl) (fun _ _ _ h => h) (Or.inl ⟨by rfl, ?_⟩) hZ0 (fun _ => trivial) ?_
    rotate_left
    · (intro v hSw; have hA := HXd.out.below hSw HXd.out.lt; obtain ⟨⟨e0, e1, e2, e3, e4, e5⟩, z0, z1, z2, z3, z4, z5⟩ := Blk.c6 hA; obtain ⟨c1, c2⟩ := HBX.out v (HBd.out.trans (hSw.mono HBd.out.size)); clear hSw hA; go_simp; try with_reducible rfl)
    (try simp only [Act.put, List.getElem_toArray, List.getElem_cons_succ, List.getElem_cons_zero, List.setIfInBounds_toArray, List.set_cons_zero, List.set_cons_succ])
    refine HT.takeP (i := 1) (v := ?_) rfl (by kernel_rfl) (by kernel_rfl) (by kernel_rfl) (by kernel_rfl) (fun _ _ _ h => h) (Or.inl ⟨by rfl, ?_⟩) hZ0 (fun _ => trivial) ?_
    rotate_left
    · (intro v hSw; have hA := HXd.out.below hSw HXd.out.lt; obtain ⟨⟨e0, e1, e2, e3, e4, e5⟩, z0, z1, z2, z3, z4, z5⟩ := Blk.c6 hA; obtain ⟨c1, c2⟩ := HBX.out v (HBd.out.trans (hSw.mono HBd.out.size)); clear hSw hA; go_simp; try with_reducible rfl)
    (try simp only [Act.put, List.getElem_toArray, List.getElem_cons_succ, List.getElem_cons_zero, List.setIfInBounds_toArray, List.set_cons_zero, List.set_cons_succ])
    refine HT.takeP (i := 2) (v := ?_) rfl (by kernel_rfl) (by kernel_rfl) (by kernel_rfl) (by kernel_rfl) (fun _ _ _ h => h) (Or.inl ⟨by rfl, ?_⟩) hZ0 (fun _ => trivial) ?_
    rotate_left
    · (intro v hSw; have hA := HXd.out.below hSw HXd.out.lt; obtain ⟨⟨e0, e1, e2, e3, e4, e5⟩, z0, z1, z2, z3, z4, z5⟩ := Blk.c6 hA; obtain ⟨c1, c2⟩ := HBX.out v (HBd.out.trans (hSw.mono HBd.out.size)); clear hSw hA; go_simp; try with_reducible rfl)
    (try simp only [Act.put, List.getElem_toArray, List.getElem_cons_succ, List.getElem_cons_zero, List.setIfInBounds_toArray, List.set_cons_zero, List.set_cons_succ])
    refine HT.takeP (i := 3) (v := ?_) rfl (by kernel_rfl) (by kernel_rfl) (by kernel_rfl) (by kernel_rfl) (fun _ _ _ h => h) (Or.inl ⟨by rfl, ?_⟩) hZ0 (fun _ => trivial) ?_
    rotate_left
    · (intro v hSw; have hA := HXd.out.below hSw HXd.out.lt; obtain ⟨⟨e0, e1, e2, e3, e4, e5⟩, z0, z1, z2, z3, z4, z5⟩ := Blk.c6 hA; obtain ⟨c1, c2⟩ := HBX.out v (HBd.out.trans (hSw.mono HBd.out.size)); clear hSw hA; go_simp; try with_reducible rfl)
    (try simp only [Act.put, List.getElem_toArray, List.getElem_cons_succ, List.getElem_cons_zero, List.setIfInBounds_toArray, List.set_cons_zero, List.set_cons_succ])
    have HC := Lib.hid (HN.out wd HBd.out)
    refine HT.one (i := 4) (by kernel_rfl) rfl (fun K hK => ?_)
    go_simp
    refine HC.out.mono ?_
    rintro e w5 ⟨rfl, hb5⟩
    (try dsimp only)
    refine hK.out _ _ hb5 trivial ?_
    clear hK K
    (try simp only [Act.put, List.getElem_toArray, List.getElem_cons_succ, List.getElem_cons_zero, List.setIfInBounds_toArray, List.set_cons_zero, List.set_cons_succ])
    refine HT.takeP (i := 5) (v := ?_) rfl (by kernel_rfl) (by kernel_rfl) (by kernel_rfl) (by kernel_rfl) (fun _ _ _ h => h) (Or.inl ⟨by rfl, ?_⟩) hb5 (fun _ => trivial) ?_
    rotate_left
    · (intro v hSw; clear hSw; go_simp; try with_reducible rfl)
    (try simp only [Act.put, List.getElem_toArray, List.getElem_cons_succ, List.getElem_cons_zero, List.setIfInBounds_toArray, List.set_cons_zero, List.set_cons_succ])
    have HR := Lib.hid (refuse w5 1 a s n A la cA B lb cB (!isN s))
    have HB5 := Lib.hid (HBW.out.trans (hb5.mono HBW.out.size))
    obtain ⟨q, hq⟩ : ∃ q, isN s = q := ⟨_, rfl⟩
    rw [hq] at HR ⊢
    have HRES2 := Lib.hid (show (if q = false then some a else none) = res by rw [← HRES.out, hq]; simp)
    clear HC HN HK HBX hq HRES
    cases q with
    | true =>
      refine HT.one (i := 6) (by kernel_rfl) rfl (fun K hK => ?_)
      go_simp
      refine (show Calls Tryz.prog 83 #[nzA 1 a s n A la cA B lb cB, .bool false] w5 _ from HR.out).mono ?_
      rintro e w6 ⟨rfl, hb6⟩
      have HB6 := Lib.hid (HB5.out.trans (hb6.mono HB5.out.size))
      have hz6 := hb5.trans (hb6.mono hb5.size)
      clear hb6
      (try dsimp only)
      refine hK.out _ _ hz6 trivial ?_
      clear hK K
      (try simp only [Act.put, List.getElem_toArray, List.getElem_cons_succ, List.getElem_cons_zero, List.setIfInBounds_toArray, List.set_cons_zero, List.set_cons_succ])
      refine HT.done (by kernel_rfl) ?_
      clear hb5 hz6
      go_wp2_with fail
      first | go_end0 | skip
      all_goals (rw [← show none = res from HRES2.out]; first | exact ⟨rfl, HB6.out⟩ | exact bodyPost_ret (results_none rfl _ _ _) rfl ⟨rfl, HB6.out⟩)
    | false =>
      refine HT.one (i := 6) (by kernel_rfl) rfl (fun K hK => ?_)
      go_simp
      refine (show Calls Tryz.prog 83 #[nzA 1 a s n A la cA B lb cB, .bool true] w5 _ from HR.out).mono ?_
      rintro e w6 ⟨rfl, hb6⟩
      have HB6 := Lib.hid (HB5.out.trans (hb6.mono HB5.out.size))
      clear hb6
      rw [← show some a = res from HRES2.out]
      exact ⟨rfl, rfl, HB6.out⟩
  by_cases hk5 : k = 5
  · subst hk5
    go_wp2_with fail
    rw [HWN.out]
    have hdr : Below wn.heap.size wn wn.drew := Below.drew (Below.refl _ _)
    obtain ⟨wd, hwd⟩ : ∃ v, wn.drew = v := ⟨_, rfl⟩
    rw [hwd] at hdr
    have HXd := Lib.hid (HXN.out.below hdr HXN.out.lt); have HBd := Lib.hid (HBE.out.trans (hdr.mono HBE.out.size)); have HBW := Lib.hid (HBN.out.trans (hdr.mono HBN.out.size))
    clear hdr e0 e1 e2 e3 e4 e5 z0 z1 z2 z3 z4 z5
    have hZ0 : Below wd.heap.size wd wd := Below.refl _ _
    refine HT.wp_region (Z := fun w' => Below wd.heap.size wd w') (S := fun _ => True) (st := []) (by kernel_rfl) ?_
    rw [hwd]
    clear hwd
    refine HT.takeP (i := 0) (v := ?_) rfl (by kernel_rfl) (by kernel_rfl) (by kernel_rfl) (by kernel_rfl) (fun _ _ _ h => h) (Or.inl ⟨by rfl, ?_⟩) hZ0 (fun _ => trivial) ?_
    rotate_left
    · (intro v hSw; have hA := HXd.out.below hSw HXd.out.lt; obtain ⟨⟨e0, e1, e2, e3, e4, e5⟩, z0, z1, z2, z3, z4, z5⟩ := Blk.c6 hA; obtain ⟨c1, c2⟩ := HBX.out v (HBd.out.trans (hSw.mono HBd.out.size)); clear hSw hA; go_simp; try with_reducible rfl)
    (try simp only [Act.put, List.getElem_toArray, List.getElem_cons_succ, List.getElem_cons_zero, List.setIfInBounds_toArray, List.set_cons_zero, List.set_cons_succ])
    refine HT.takeP (i := 1) (v := ?_) rfl (by kernel_rfl) (by kernel_rfl) (by kernel_rfl) (by kernel_rfl) (fun _ _ _ h => h) (Or.inl ⟨by rfl, ?_⟩) hZ0 (fun _ => trivial) ?_
    rotate_left
    · (intro v hSw; have hA := HXd.out.below hSw HXd.out.lt; obtain ⟨⟨e0, e1, e2, e3, e4, e5⟩, z0, z1, z2, z3, z4, z5⟩ := Blk.c6 hA; obtain ⟨c1, c2⟩ := HBX.out v (HBd.out.trans (hSw.mono HBd.out.size)); clear hSw hA; go_simp; try with_reducible rfl)
    (try simp only [Act.put, List.getElem_toArray, List.getElem_cons_succ, List.getElem_cons_zero, List.setIfInBounds_toArray, List.set_cons_zero, List.set_cons_succ])
    refine HT.takeP (i := 2) (v := ?_) rfl (by kernel_rfl) (by kernel_rfl) (by kernel_rfl) (by kernel_rfl) (fun _ _ _ h => h) (Or.inl ⟨by rfl, ?_⟩) hZ0 (fun _ => trivial) ?_
    rotate_left
    · (intro v hSw; have hA := HXd.out.below hSw HXd.out.lt; obtain ⟨⟨e0, e1, e2, e3, e4, e5⟩, z0, z1, z2, z3, z4, z5⟩ := Blk.c6 hA; obtain ⟨c1, c2⟩ := HBX.out v (HBd.out.trans (hSw.mono HBd.out.size)); clear hSw hA; go_simp; try with_reducible rfl)
    (try simp only [Act.put, List.getElem_toArray, List.getElem_cons_succ, List.getElem_cons_zero, List.setIfInBounds_toArray, List.set_cons_zero, List.set_cons_succ])
    refine HT.takeP (i := 3) (v := ?_) rfl (by kernel_rfl) (by kernel_rfl) (by kernel_rfl) (by kernel_rfl) (fun _ _ _ h => h) (Or.inl ⟨by rfl, ?_⟩) hZ0 (fun _ => trivial) ?_
    rotate_left
    · (intro v hSw; have hA := HXd.out.below hSw HXd.out.lt; obtain ⟨⟨e0, e1, e2, e3, e4, e5⟩, z0, z1, z2, z3, z4, z5⟩ := Blk.c6 hA; obtain ⟨c1, c2⟩ := HBX.out v (HBd.out.trans (hSw.mono HBd.out.size)); clear hSw hA; go_simp; try with_reducible rfl)
    (try simp only [Act.put, List.getElem_toArray, List.getElem_cons_succ, List.getElem_cons_zero, List.setIfInBounds_toArray, List.set_cons_zero, List.set_cons_succ])
    refine HT.takeP (i := 4) (v := ?_) rfl (by kernel_rfl) (by kernel_rfl) (by kernel_rfl) (by kernel_rfl) (fun _ _ _ h => h) (Or.inl ⟨by rfl, ?_⟩) hZ0 (fun _ => trivial) ?_
    rotate_left
    · (intro v hSw; have hA := HXd.out.below hSw HXd.out.lt; obtain ⟨⟨e0, e1, e2, e3, e4, e5⟩, z0, z1, z2, z3, z4, z5⟩ := Blk.c6 hA; obtain ⟨c1, c2⟩ := HBX.out v (HBd.out.trans (hSw.mono HBd.out.size)); clear hSw hA; go_simp; try with_reducible rfl)
    (try simp only [Act.put, List.getElem_toArray, List.getElem_cons_succ, List.getElem_cons_zero, List.setIfInBounds_toArray, List.set_cons_zero, List.set_cons_succ])
    refine HT.takeP (i := 5) (v := ?_) rfl (by kernel_rfl) (by kernel_rfl) (by kernel_rfl) (by kernel_rfl) (fun _ _ _ h => h) (Or.inl ⟨by rfl, ?_⟩) hZ0 (fun _ => trivial) ?_
    rotate_left
    · (intro v hSw; have hA := HXd.out.below hSw HXd.out.lt; obtain ⟨⟨e0, e1, e2, e3, e4, e5⟩, z0, z1, z2, z3, z4, z5⟩ := Blk.c6 hA; obtain ⟨c1, c2⟩ := HBX.out v (HBd.out.trans (hSw.mono HBd.out.size)); clear hSw hA; go_simp; try with_reducible rfl)
    (try simp only [Act.put, List.getElem_toArray, List.getElem_cons_succ, List.getElem_cons_zero, List.setIfInBounds_toArray, List.set_cons_zero, List.set_cons_succ])
    refine HT.takeP (i := 6) (v := ?_) rfl (by kernel_rfl) (by kernel_rfl) (by kernel_rfl) (by kernel_rfl) (fun _ _ _ h => h) (Or.inl ⟨by rfl, ?_⟩) hZ0 (fun _ => trivial) ?_
    rotate_left
    · (intro v hSw; have hA := HXd.out.below hSw HXd.out.lt; obtain ⟨⟨e0, e1, e2, e3, e4, e5⟩, z0, z1, z2, z3, z4, z5⟩ := Blk.c6 hA; obtain ⟨c1, c2⟩ := HBX.out v (HBd.out.trans (hSw.mono HBd.out.size)); clear hSw hA; go_simp; try with_reducible rfl)
    (try simp only [Act.put, List.getElem_toArray, List.getElem_cons_succ, List.getElem_cons_zero, List.setIfInBounds_toArray, List.set_cons_zero, List.set_cons_succ])
    have HC := Lib.hid (HK.out wd HBd.out)
    refine HT.one (i := 7) (by kernel_rfl) rfl (fun K hK => ?_)
    go_simp
    refine HC.out.mono ?_
    rintro e w5 ⟨rfl, hb5⟩
    (try dsimp only)
    refine hK.out _ _ hb5 trivial ?_
    clear hK K
    (try simp only [Act.put, List.getElem_toArray, List.getElem_cons_succ, List.getElem_cons_zero, List.setIfInBounds_toArray, List.set_cons_zero, List.set_cons_succ])
    refine HT.takeP (i := 8) (v := ?_) rfl (by kernel_rfl) (by kernel_rfl) (by kernel_rfl) (by kernel_rfl) (fun _ _ _ h => h) (Or.inl ⟨by rfl, ?_⟩) hb5 (fun _ => trivial) ?_
    rotate_left
    · (intro v hSw; clear hSw; go_simp; try with_reducible rfl)
    (try simp only [Act.put, List.getElem_toArray, List.getElem_cons_succ, List.getElem_cons_zero, List.setIfInBounds_toArray, List.set_cons_zero, List.set_cons_succ])
    have HR := Lib.hid (refuse w5 5 a s n A la cA B lb cB (!callB kn s la))
    have HB5 := Lib.hid (HBW.out.trans (hb5.mono HBW.out.size))
    obtain ⟨q, hq⟩ : ∃ q, callB kn s la = q := ⟨_, rfl⟩
    rw [hq] at HR ⊢
    have HRES2 := Lib.hid (show (if q = false then some a else none) = res by rw [← HRES.out, hq]; simp)
    clear HC HN HK HBX hq HRES
    cases q with
    | true =>
      refine HT.one (i := 9) (by kernel_rfl) rfl (fun K hK => ?_)
      go_simp
      refine (show Calls Tryz.prog 83 #[nzA 5 a s n A la cA B lb cB, .bool false] w5 _ from HR.out).mono ?_
      rintro e w6 ⟨rfl, hb6⟩
      have HB6 := Lib.hid (HB5.out.trans (hb6.mono HB5.out.size))
      have hz6 := hb5.trans (hb6.mono hb5.size)
      clear hb6
      (try dsimp only)
      refine hK.out _ _ hz6 trivial ?_
      clear hK K
      (try simp only [Act.put, List.getElem_toArray, List.getElem_cons_succ, List.getElem_cons_zero, List.setIfInBounds_toArray, List.set_cons_zero, List.set_cons_succ])
      refine HT.done (by kernel_rfl) ?_
      clear hb5 hz6
      go_wp2_with fail
      first | go_end0 | skip
      all_goals (rw [← show none = res from HRES2.out]; first | exact ⟨rfl, HB6.out⟩ | exact bodyPost_ret (results_none rfl _ _ _) rfl ⟨rfl, HB6.out⟩)
    | false =>
      refine HT.one (i := 9) (by kernel_rfl) rfl (fun K hK => ?_)
      go_simp
      refine (show Calls Tryz.prog 83 #[nzA 5 a s n A la cA B lb cB, .bool true] w5 _ from HR.out).mono ?_
      rintro e w6 ⟨rfl, hb6⟩
      have HB6 := Lib.hid (HB5.out.trans (hb6.mono HB5.out.size))
      clear hb6
      rw [← show some a = res from HRES2.out]
      exact ⟨rfl, rfl, HB6.out⟩
  have i1 : (k == 1) = false := by simp; omega
  have i5 : (k == 5) = false := by simp; omega
  have HRES2 := Lib.hid (show none = res by rw [← HRES.out, if_neg]; rintro (⟨h, _⟩ | ⟨h, _⟩) <;> omega)
  clear HN HK HBX hk1 hk5 HRES
  go_wp2_with fail
  rw [HWN.out]
  first | go_end0 | skip
  all_goals (rw [← HRES2.out]; first | exact ⟨rfl, HBN.out⟩ | exact bodyPost_ret (results_none rfl _ _ _) rfl ⟨rfl, HBN.out⟩)
set_option maxRecDepth 100000 in
set_option maxHeartbeats 4000000 in
theorem exprs (w0 w : World) (g : Nat) (kn : Kn) (G : FuncId) (r : Value) (isN : Bs → Bool) (A : Option Addr) (cA : Nat) (l : List Tz) (css : List (List Value)) (hb : Below w0.heap.size w0 w) (hL : Lies w0 A css.flatten) (hS : TsIz w0 l css) (hl : l.length ≤ maxLen) (hlz : lenzs l) (hk : KnP w g kn) (hI : IsN w G r isN) :
    Calls Tryz.prog 88 #[.pointer (some ⟨g, 0, none⟩), .func (.func G) #[r] #[], .slice A l.length cA] w (ExP w (exBs isN (callB kn) l)) := by
  have hlm : l.length ≤ 9223372036854775807 := hl
  obtain ⟨wa, hwa⟩ : ∃ wa, w.alloc (.cells #[.pointer (some ⟨g, 0, none⟩)] 55) = wa := ⟨_, rfl⟩
  have hba : Below w.heap.size w wa := by rw [← hwa]; exact (Below.refl _ _).alloc (Nat.le_refl _) _
  have hXa : Blk wa w.heap.size 55 #[.pointer (some ⟨g, 0, none⟩)] := by rw [← hwa]; exact Blk.new _ _ _
  have hsa : wa.heap.size = w.heap.size + 1 := by rw [← hwa]; simp
  obtain ⟨wE, hwE⟩ : ∃ wE, wa.alloc (.cells #[.func (.func G) #[r] #[]] 36) = wE := ⟨_, rfl⟩
  have hbE : Below wa.heap.size wa wE := by rw [← hwE]; exact (Below.refl _ _).alloc (Nat.le_refl _) _
  have hXE : Blk wE wa.heap.size 36 #[.func (.func G) #[r] #[]] := by rw [← hwE]; exact Blk.new _ _ _
  have hbw : Below w.heap.size w wE := hba.trans (hbE.mono hba.size)
  rw [hsa] at hXE
  have h2 : wE.cell? ⟨w.heap.size, 0, none⟩ = some (.pointer (some ⟨g, 0, none⟩)) := (hXa.below hbE hXa.lt).cell 0
  have h1 : wE.cell? ⟨w.heap.size + 1, 0, none⟩ = some (.func (.func G) #[r] #[]) := hXE.cell 0
  have V : ∀ lim, Vis w0 104 (.pointer (some ⟨w.heap.size + 1, 0, none⟩)) (.pointer (some ⟨w.heap.size, 0, none⟩)) (exF isN (callB kn)) (fun _ v _ => Below wE.heap.size wE v) (fun _ => 0) lim := by
    intro lim
    refine ⟨fun _ _ _ _ => Nat.zero_le _, fun _ _ => by kernel_rfl, fun _ _ _ _ h _ => h, fun _ _ _ _ h h' => h.trans (h'.mono h.size), fun N v st z k a s n A la cA B lb cB hv hT hz _ hJ => ?_⟩
    obtain ⟨k1, a1, s1, n1, ps, l1⟩ := z
    obtain ⟨rfl, rfl, rfl, rfl, rfl, rfl, hl1, _⟩ := tIz_parts hT
    refine (exprs1 (hk.below hbw) (hI.below hbw) h1 h2 v hJ k a s n A l1.length cA B ps.length cB (lenz_parts hz).1 hl1).mono fun e w' he => ?_
    by_cases h : (k = 1 ∧ isN s = false) ∨ (k = 5 ∧ callB kn s l1.length = false)
    · rw [if_pos h] at he
      rw [show exF isN (callB kn) (.mk k a s n ps l1) st = .inl a from if_pos h]
      exact ⟨he.1, Upd.of_below he.2 _⟩
    · rw [if_neg h] at he
      rw [show exF isN (callB kn) (.mk k a s n ps l1) st = .inr () from if_neg h]
      exact ⟨he.1, hJ.trans (he.2.mono hJ.size), Upd.of_below he.2 _⟩
  have HV := Lib.hid V; have HL := Lib.hid hL; have HS := Lib.hid hS; have HLZ := Lib.hid hlz
  have HWA := Lib.hid hwa; have HWE := Lib.hid hwE; have HBW := Lib.hid hbw; have HB := Lib.hid hb
  obtain ⟨res, hres⟩ : ∃ res, exBs isN (callB kn) l = res := ⟨_, rfl⟩
  rw [hres]
  have HRES := Lib.hid hres
  have hse := hXE.lt
  clear V hL hS hlz hwa hwE hbw hb h1 h2 hXE hXa hba hbE hk hI hl hres
  go_enter Tryz.func88, Tryz.ntmps88
  go_wp2_with fail
  rw [HWA.out, HWE.out]
  go_loopw [10] (fun vi wr => ∃ i : Nat, i ≤ l.length ∧ vi = .int .i64 (i : Int) ∧ Hid (Below wE.heap.size wE wr) ∧ Hid (exBs isN (callB kn) (l.drop i) = res)) (fun vi _ => l.length - (intOf vi).toNat)
  case atStart => exact ⟨0, by omega, rfl, Lib.hid (Below.refl _ _), HRES⟩
  case round =>
    obtain ⟨i, hi, rfl, HH, HQ⟩ := hrel
    by_cases hlt : i < l.length
    · have hil : (i : Int) < (l.length : Int) := by omega
      obtain ⟨y, hy⟩ : ∃ y, l[i]? = some y := ⟨_, List.getElem?_eq_getElem hlt⟩
      have hbr := HBW.out.trans (HH.out.mono HBW.out.size)
      have hb0 := HB.out.trans (hbr.mono HB.out.size)
      obtain ⟨b, o, k', a', s', n', A', la', cA', B', lb', cB', rfl, hTy, hbl, g0, g1, g2, g3, g4, g5⟩ := partz_b hb0 HL.out HS.out hy
      obtain ⟨wb, hwb, hbb, hXb, hsb⟩ := a_box wr (nB k' a' s' n' A' la' cA' B' lb' cB')
      have hC := each (HV.out (0 + cntz y)) (SizeOf.sizeOf y + 1) y (Nat.lt_succ_self _) (fun _ => False) wb () k' a' s' n' A' la' cA' B' lb' cB' (hb0.trans (hbb.mono hb0.size)) hTy (lenzs_at HLZ.out hy) (fun _ h => h.elim) (Nat.le_refl _) (HH.out.trans (hbb.mono HH.out.size))
      rw [fold_ex] at hC
      have hq := HQ.out
      rw [drop_at hy] at hq
      conv at hq => lhs; unfold exBs
      obtain ⟨⟨e0, e1, e2, e3, e4, e5⟩, z0, z1, z2, z3, z4, z5⟩ := Blk.c6 hXb
      have HC := Lib.hid hC; have HWB := Lib.hid hwb; have HQ2 := Lib.hid hq; have HBB := Lib.hid (hbr.trans (hbb.mono hbr.size))
      clear hC hwb hbb hXb hq hTy hy hbr hb0
      generalize exB isN (callB kn) y = r2 at HC HQ2
      go_wp2_with fail
      rw [HWB.out]
      refine (show Calls Tryz.prog 21 #[nzA k' a' s' n' A' la' cA' B' lb' cB', .func (.func 104) #[] #[.pointer (some ⟨w.heap.size + 1, 0, none⟩), .pointer (some ⟨w.heap.size, 0, none⟩)]] wb _ from HC.out).mono ?_
      intro e w4 h4
      cases r2 with
      | some a2 =>
        obtain ⟨rfl, hu4⟩ := h4
        have HEND := Lib.hid (show Below w.heap.size w w4 from HBB.out.trans ((hu4.below (Nat.le_refl _) fun _ h => h.elim).mono HBB.out.size))
        have HQ3 := Lib.hid (show some a2 = res from HQ2.out)
        clear hu4
        go_wp2_with fail
        rw [← HQ3.out]
        exact ⟨rfl, rfl, HEND.out⟩
      | none =>
        obtain ⟨rfl, hj4, hu4⟩ := h4
        have HJ4 := Lib.hid hj4
        clear hj4 hu4
        go_wp2_with fail
        go_roundw
        case rel => exact ⟨i + 1, by omega, by go_num, HJ4, HQ2⟩
        case measure => simp [intOf]; omega
    · obtain rfl : i = l.length := by omega
      have hq := HQ.out
      rw [List.drop_length] at hq
      conv at hq => lhs; unfold exBs
      have HQ2 := Lib.hid hq
      have HEND := Lib.hid (HBW.out.trans (HH.out.mono HBW.out.size))
      clear hq
      go_wp2_with fail
      first | go_end0 | skip
      all_goals (rw [← HQ2.out]; first | exact ⟨rfl, HEND.out⟩ | exact bodyPost_ret (results_none rfl _ _ _) rfl ⟨rfl, HEND.out⟩)
end Go.Proofs.YtpoepignpdfleaaGreatDoor.Nm
/- DERIVED. The checker's inputs. By an AI agent. -/
namespace Go.Proofs.YtpoepignpdfleaaGreatDoor.Nm
open Go Go.ChangeShapes Go.WideShapes Go.ChangeAt Go.RowKit Lx Args Pa Sh
set_option linter.unusedVariables false
set_option linter.unusedSimpArgs false
/-- The blocks that are the checker's, and those behind a box. -/
abbrev In2 (N : Nat → Prop) (w wn : World) : Nat → Prop := fun b => (N b ∧ b < w.heap.size) ∨ wn.heap.size ≤ b
theorem in2_start {N : Nat → Prop} {lo : Nat} {w wn : World} {g : Nat} {c : St} {m : Nat} (h : CK N lo w g c m) (hb : Below w.heap.size w wn) : CK (In2 N w wn) lo wn g c m := (h.mono (N' := fun b => N b ∧ b < w.heap.size) fun b h1 h2 _ => ⟨h1, h2⟩).below hb |>.mono fun b h1 _ _ => .inl h1
theorem in2_new {N : Nat → Prop} {lo : Nat} {w wn wr w' : World} {g : Nat} {c : St} {m : Nat} (h : CK (New (In2 N w wn) wr) lo w' g c m) (hs : wn.heap.size ≤ wr.heap.size) : CK (In2 N w wn) lo w' g c m := h.mono fun b h1 _ _ => h1.elim id fun h => .inr (Nat.le_trans hs h)
theorem in2_out {N : Nat → Prop} {lo : Nat} {w wn w' : World} {g : Nat} {c : St} {m : Nat} (h : CK (In2 N w wn) lo w' g c m) (hs : w.heap.size ≤ wn.heap.size) : CK (New N w) lo w' g c m := h.mono fun b h1 _ _ => h1.imp (fun h => h.1) fun h => Nat.le_trans hs h
theorem in2_upd {N : Nat → Prop} {w wn wr w' : World} (h : Upd N w wr) (hu : Upd (In2 N w wn) wr w') (hs : w.heap.size ≤ wn.heap.size) : Upd N w w' := upd_then h hu fun b hb hlt => hb.elim (fun h => h.1) fun h => by omega
theorem in2_low {N : Nat → Prop} {w0 w wn : World} (hN : ∀ b, N b → w0.heap.size ≤ b) (hs : w0.heap.size ≤ wn.heap.size) : ∀ b, In2 N w wn b → w0.heap.size ≤ b := fun b hb => hb.elim (fun h => hN b h.1) fun h => Nat.le_trans hs h
theorem below_low {X : Nat → Prop} {w0 w w' : World} (hb : Below w0.heap.size w0 w) (hu : Upd X w w') (hX : ∀ b, X b → w0.heap.size ≤ b) : Below w0.heap.size w0 w' := hb.trans (hu.below hb.size hX)
set_option maxRecDepth 100000 in
set_option maxHeartbeats 4000000 in
theorem inputs (w0 w : World) (N : Nat → Prop) (lo g : Nat) (c : St) (m : Nat) (k a : Int) (s : Bs) (n : Nat) (A : Option Addr) (la cA : Nat) (B : Option Addr) (cB : Nat) (ps : List Bs) (hb : Below w0.heap.size w0 w) (hB : Lies w0 B (ps.map strV)) (hps : ps.length ≤ maxLen) (hpl : ∀ p ∈ ps, p.length ≤ maxLen)
    (hN : ∀ b, N b → w0.heap.size ≤ b) (hc : CK N lo w g c m) (hm : m + ps.length ≤ 1099511627776) :
    Calls Tryz.prog 68 #[.pointer (some ⟨g, 0, none⟩), nzA k a s n A la cA B ps.length cB] w (StatP N lo w g (inB a ps c) (m + ps.length)) := by
  have hpm : ps.length ≤ 9223372036854775807 := hps
  obtain ⟨wn, hwn, hbn, hXn, hsn⟩ := a_box w (nB k a s n A la cA B ps.length cB)
  obtain ⟨⟨e0, e1, e2, e3, e4, e5⟩, z0, z1, z2, z3, z4, z5⟩ := Blk.c6 hXn
  have HC0 := Lib.hid (in2_start hc hbn); have HU0 := Lib.hid (Upd.of_below hbn N); have HX0 := Lib.hid hXn; have HW := Lib.hid hwn; have HB0 := Lib.hid (hb.trans (hbn.mono hb.size))
  have HB := Lib.hid hB; have HPL := Lib.hid hpl; have HM := Lib.hid hm; have HN := Lib.hid (in2_low (w := w) hN (Nat.le_trans hb.size hbn.size)); have HSN := Lib.hid hsn
  obtain ⟨res, hres⟩ : ∃ res, inB a ps c = res := ⟨_, rfl⟩
  rw [hres]
  have HRES := Lib.hid hres
  have hgl := hXn.lt
  clear hc hbn hXn hwn hb hB hpl hm hN hps hres hsn
  go_enter Tryz.func68, Tryz.ntmps68
  go_wp2_with fail
  rw [HW.out]
  go_loopw [9] (fun vi wr => ∃ (i : Nat) (ci : St), i ≤ ps.length ∧ vi = .int .i64 (i : Int) ∧ Hid (CK (In2 N w wn) lo wr g ci (m + i)) ∧ Hid (Upd N w wr) ∧ Hid (Below w0.heap.size w0 wr) ∧ Hid (Blk wr w.heap.size 26 (nB k a s n A la cA B ps.length cB)) ∧ Hid (inB a (ps.drop i) ci = res) ∧ Hid (wn.heap.size ≤ wr.heap.size)) (fun vi _ => ps.length - (intOf vi).toNat)
  case atStart => exact ⟨0, c, by omega, rfl, HC0, HU0, HB0, HX0, HRES, Lib.hid (Nat.le_refl _)⟩
  case round =>
    obtain ⟨i, ci, hi, rfl, HC, HU, HBE, HX, HQ, HSZ⟩ := hrel
    by_cases hlt : i < ps.length
    · obtain ⟨p, hp⟩ : ∃ p, ps[i]? = some p := ⟨_, List.getElem?_eq_getElem hlt⟩
      have f1 : (ps.map strV)[i]? = some (.string ⟨p.toArray⟩) := by rw [List.getElem?_map, hp]; rfl
      obtain ⟨b, o, rfl, _, hc1⟩ := (HB.out.below HBE.out).at_ f1
      have g1 := hc1 _ _ f1
      have hpp := HPL.out p (List.mem_of_getElem? hp)
      have hq := HQ.out
      rw [drop_at hp] at hq
      unfold inB at hq
      have hdr : Below wr.heap.size wr wr.drew := Below.drew (Below.refl _ _)
      obtain ⟨wd, hwd⟩ : ∃ v, wr.drew = v := ⟨_, rfl⟩
      rw [hwd] at hdr
      have HXd := Lib.hid (HX.out.below hdr HX.out.lt); have HCd := Lib.hid (HC.out.below hdr); have HUd := Lib.hid (upd_then HU.out (Upd.of_below hdr fun _ => False) fun _ h => h.elim); have HBd := Lib.hid (HBE.out.trans (hdr.mono HBE.out.size))
      have hsd := hdr.size
      have hZ0 : Below wd.heap.size wd wd := Below.refl _ _
      have HNM := Lib.hid (isNamed wd g ci.kn HCd.out.knp p hpp)
      clear hc1 f1 hp HQ hdr
      go_wp2_with fail
      clear g1
      refine HT.wp_region (Z := fun w' => Below wd.heap.size wd w') (S := fun _ => True) (st := []) (by kernel_rfl) ?_
      rw [hwd]
      clear hwd
      refine HT.takeP (i := 0) (v := ?_) rfl (by kernel_rfl) (by kernel_rfl) (by kernel_rfl) (by kernel_rfl) (fun _ _ _ h => h) (Or.inl ⟨by rfl, ?_⟩) hZ0 (fun _ => trivial) ?_
      rotate_left
      · (intro v hSw; have hA := HXd.out.below hSw HXd.out.lt; obtain ⟨⟨e0, e1, e2, e3, e4, e5⟩, z0, z1, z2, z3, z4, z5⟩ := Blk.c6 hA; clear hSw hA; go_simp; try with_reducible rfl)
      (try simp only [Act.put, List.getElem_toArray, List.getElem_cons_succ, List.getElem_cons_zero, List.setIfInBounds_toArray, List.set_cons_zero, List.set_cons_succ])
      refine HT.takeP (i := 1) (v := ?_) rfl (by kernel_rfl) (by kernel_rfl) (by kernel_rfl) (by kernel_rfl) (fun _ _ _ h => h) (Or.inl ⟨by rfl, ?_⟩) hZ0 (fun _ => trivial) ?_
      rotate_left
      · (intro v hSw; have hA := HXd.out.below hSw HXd.out.lt; obtain ⟨⟨e0, e1, e2, e3, e4, e5⟩, z0, z1, z2, z3, z4, z5⟩ := Blk.c6 hA; clear hSw hA; go_simp; try with_reducible rfl)
      (try simp only [Act.put, List.getElem_toArray, List.getElem_cons_succ, List.getElem_cons_zero, List.setIfInBounds_toArray, List.set_cons_zero, List.set_cons_succ])
      refine HT.takeP (i := 2) (v := ?_) rfl (by kernel_rfl) (by kernel_rfl) (by kernel_rfl) (by kernel_rfl) (fun _ _ _ h => h) (Or.inl ⟨by rfl, ?_⟩) hZ0 (fun _ => trivial) ?_
      rotate_left
      · (intro v hSw; have hA := HXd.out.below hSw HXd.out.lt; obtain ⟨⟨e0, e1, e2, e3, e4, e5⟩, z0, z1, z2, z3, z4, z5⟩ := Blk.c6 hA; clear hSw hA; go_simp; try with_reducible rfl)
      (try simp only [Act.put, List.getElem_toArray, List.getElem_cons_succ, List.getElem_cons_zero, List.setIfInBounds_toArray, List.set_cons_zero, List.set_cons_succ])
      refine HT.one (i := 3) (by kernel_rfl) rfl (fun K hK => ?_)
      go_simp
      refine HNM.out.mono ?_
      rintro e w5 ⟨rfl, hb5⟩
      (try dsimp only)
      refine hK.out _ _ hb5 trivial ?_
      clear hK K
      (try simp only [Act.put, List.getElem_toArray, List.getElem_cons_succ, List.getElem_cons_zero, List.setIfInBounds_toArray, List.set_cons_zero, List.set_cons_succ])
      have HR := Lib.hid (refuse w5 k a s n A la cA (some ⟨b, o, none⟩) ps.length cB (namedB ci.kn p))
      obtain ⟨q, hqn⟩ : ∃ q, namedB ci.kn p = q := ⟨_, rfl⟩
      rw [hqn] at HR hq ⊢
      have HQ := Lib.hid hq
      clear HNM hqn hq
      cases q with
      | true =>
        have HQ2 := Lib.hid (show Rs.bad a = res from HQ.out)
        refine HT.one (i := 4) (by kernel_rfl) rfl (fun K hK => ?_)
        go_simp
        refine (show Calls Tryz.prog 83 #[nzA k a s n A la cA (some ⟨b, o, none⟩) ps.length cB, .bool true] w5 _ from HR.out).mono ?_
        rintro e w6 ⟨rfl, hb6⟩
        have HEND := Lib.hid (upd_then (upd_then HUd.out (Upd.of_below hb5 fun _ => False) fun _ h => h.elim) (Upd.of_below hb6 fun _ => False) fun _ h => h.elim)
        clear hb6
        have HEND2 := Lib.hid (show StatP N lo w g res (m + ps.length) (panW a) w6 from by rw [← HQ2.out]; exact ⟨rfl, HEND.out⟩)
        exact ⟨rfl, HEND2.out⟩
      | false =>
        refine HT.one (i := 4) (by kernel_rfl) rfl (fun K hK => ?_)
        go_simp
        refine (show Calls Tryz.prog 83 #[nzA k a s n A la cA (some ⟨b, o, none⟩) ps.length cB, .bool false] w5 _ from HR.out).mono ?_
        rintro e w6 ⟨rfl, hb6⟩
        have hz6 := hb5.trans (hb6.mono hb5.size)
        have HC6 := Lib.hid (HCd.out.below hz6); have HX6 := Lib.hid (HXd.out.below hz6 HXd.out.lt); have HU6 := Lib.hid (upd_then HUd.out (Upd.of_below hz6 fun _ => False) fun _ h => h.elim); have HB6 := Lib.hid (HBd.out.trans (hz6.mono HBd.out.size))
        have hs6 := hz6.size
        clear hb6
        (try dsimp only)
        refine hK.out _ _ hz6 trivial ?_
        clear hK K
        (try simp only [Act.put, List.getElem_toArray, List.getElem_cons_succ, List.getElem_cons_zero, List.setIfInBounds_toArray, List.set_cons_zero, List.set_cons_succ])
        refine HT.done (by kernel_rfl) ?_
        clear hb5 hz6 HR
        have HNA := Lib.hid (name_ (In2 N w wn) lo w6 g ci (m + i) HC6.out (by have := HM.out; omega) p hpp 0 (by decide))
        go_wp2_with fail
        refine (show Calls Tryz.prog 85 #[.pointer (some ⟨g, 0, none⟩), .string ⟨p.toArray⟩, .int .i64 0] w6 _ from HNA.out).mono ?_
        rintro e w7 ⟨rfl, hc7, hu7⟩
        have HC7 := Lib.hid (in2_new hc7 (show wn.heap.size ≤ w6.heap.size by have := HSZ.out; omega))
        have HU7 := Lib.hid (in2_upd HU6.out hu7 (by have := HSN.out; omega))
        have HB7 := Lib.hid (below_low HB6.out hu7 HN.out)
        have HX7 := Lib.hid (HX6.out.upd hu7 fun h => by
          rcases h with h | h
          · exact Nat.lt_irrefl _ h.2
          · have := HSN.out; omega)
        have HSZ7 := Lib.hid (show wn.heap.size ≤ w7.heap.size by have := hu7.size; have := HSZ.out; omega)
        have HQ2 : Hid (inB a (ps.drop (i + 1)) { ci with kn := ci.kn.put p (0, 0), en := ci.en ++ [p] } = res) := Lib.hid HQ.out
        clear hc7 hu7
        go_wp2_with fail
        go_roundw
        case rel => exact ⟨i + 1, _, by omega, by go_num, HC7, HU7, HB7, HX7, HQ2, HSZ7⟩
        case measure => simp [intOf]; omega
    · obtain rfl : i = ps.length := by omega
      have hq := HQ.out
      rw [List.drop_length] at hq
      unfold inB at hq
      have HQ2 := Lib.hid hq
      have HEND := Lib.hid (show StatP N lo w g (.ok ci) (m + ps.length) (.returned (.tuple #[])) wr from ⟨rfl, in2_out HC.out (by have := HSN.out; omega), HU.out⟩)
      clear hq
      go_wp2_with fail
      first | go_end0 | skip
      all_goals (rw [← HQ2.out]; first | exact HEND.out | exact bodyPost_ret (results_none rfl _ _ _) rfl HEND.out)
end Go.Proofs.YtpoepignpdfleaaGreatDoor.Nm
