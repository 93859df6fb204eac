/- DERIVED. NmLa, NmWl in one text. By an AI agent. -/
import Derived.Test.YtpoepignpdfleaaGreatDoorZ39
/- DERIVED. The reference's Labels and Same, of two that are the same. By an AI agent. -/
namespace Go.Proofs.YtpoepignpdfleaaGreatDoor.Nm
open Go Go.ChangeShapes Go.WideShapes Go.ChangeAt Go.RowKit Lx Args Pa Sh
set_option linter.unusedVariables false
set_option linter.unusedSimpArgs false
theorem la_len (l : List (Bs × Bool)) : (l.flatMap laC).length = l.length * 3 := by
  induction l with
  | nil => rfl
  | cons x l ih => rw [List.flatMap_cons, List.length_append, ih, List.length_cons]; show 3 + _ = _; omega
theorem la_at : ∀ {l : List (Bs × Bool)} {i : Nat} {x : Bs × Bool}, l[i]? = some x → ∀ j, j < 3 → (l.flatMap laC)[i * 3 + j]? = (laC x)[j]?
  | [], i, x, h, j, hj => by simp at h
  | y :: l, 0, x, h, j, hj => by
    have : y = x := by simpa using h
    subst this
    rw [List.flatMap_cons, List.getElem?_append_left (by show 0 * 3 + j < 3; omega)]
    congr 1; omega
  | y :: l, i + 1, x, h, j, hj => by
    rw [List.flatMap_cons, List.getElem?_append_right (by show 3 ≤ _; omega), ← la_at (l := l) (i := i) (x := x) (by simpa using h) j hj]
    congr 1
    show (i + 1) * 3 + j - 3 = i * 3 + j
    omega
theorem la_cells {w : World} {A : Option Addr} {l : List (Bs × Bool)} (hL : Lies w A (l.flatMap laC)) {i : Nat} {s : Bs} {q : Bool} (h : l[i]? = some (s, q)) :
    ∃ b o, A = some ⟨b, o, none⟩ ∧ b < w.heap.size ∧ w.cell? ⟨b, o + i * 3, none⟩ = some (.string ⟨s.toArray⟩) ∧ w.cell? ⟨b, o + i * 3 + 1, none⟩ = some (.bool false) ∧ w.cell? ⟨b, o + i * 3 + 2, none⟩ = some (.bool q) := by
  have g0 := la_at h 0 (by omega); have g1 := la_at h 1 (by omega); have g2 := la_at h 2 (by omega)
  obtain ⟨b, o, rfl, hb, hc⟩ := hL.at_ (j := i * 3 + 0) (g0.trans rfl)
  refine ⟨b, o, rfl, hb, hc _ _ (g0.trans rfl), ?_, ?_⟩
  · rw [Nat.add_assoc]; exact hc _ _ (g1.trans rfl)
  · rw [Nat.add_assoc]; exact hc _ _ (g2.trans rfl)
set_option maxRecDepth 100000 in
set_option maxHeartbeats 4000000 in
theorem labels (l : List (Bs × Bool)) (w : World) (v u : Value) (lo lo' : Nat) (hv : w.ownsRow lo 44 3 v l.length (l.flatMap laC)) (hu : w.ownsRow lo' 44 3 u l.length (l.flatMap laC)) (hl : l.length ≤ maxLen) :
    Calls Tryz.prog 16 #[v, u] w fun e w' => e = .returned (.bool true) ∧ Below w.heap.size w w' := by
  have hlm : l.length ≤ 9223372036854775807 := hl
  obtain ⟨A, c, rfl, hA⟩ := lies_ownV hv
  obtain ⟨B, d, rfl, hB⟩ := lies_ownV hu
  have HA := Lib.hid hA; have HB := Lib.hid hB
  clear hA hB hv hu hl
  go_enter Tryz.func16, Tryz.ntmps16
  go_wp2_with fail
  go_loopw [5] (fun vi wr => ∃ i : Nat, i ≤ l.length ∧ vi = .int .i64 (i : Int) ∧ Hid (Below w.heap.size w wr)) (fun vi _ => l.length - (intOf vi).toNat)
  case atStart => exact ⟨0, by omega, rfl, Lib.hid (Below.refl _ _)⟩
  case round =>
    obtain ⟨i, hi, rfl, HBr⟩ := hrel
    by_cases hlt : i < l.length
    · obtain ⟨⟨s, q⟩, hx⟩ : ∃ x, l[i]? = some x := ⟨_, List.getElem?_eq_getElem hlt⟩
      have hdr : Below wr.heap.size wr wr.drew := Below.drew (Below.refl _ _)
      obtain ⟨wz, hwd⟩ : ∃ v, wr.drew = v := ⟨_, rfl⟩
      rw [hwd] at hdr
      have hbz := HBr.out.trans (hdr.mono HBr.out.size)
      obtain ⟨b, o, rfl, hb, e0, e1, e2⟩ := la_cells (HA.out.below hbz) hx
      obtain ⟨b', o', rfl, hb', g0, g1, g2⟩ := la_cells (HB.out.below hbz) hx
      have HBz := Lib.hid hbz
      have hZ0 : wz = wz := rfl
      clear hdr hbz hx
      go_wp2_with fail
      refine HT.wp_region (Z := fun w' => w' = wz) (S := fun _ => True) (st := []) (by kernel_rfl) ?_
      rw [hwd]
      clear hwd
      refine HT.takeP (i := 0) (v := ?_) rfl (by kernel_rfl) (by kernel_rfl) (by kernel_rfl) (by kernel_rfl) (fun _ _ _ h => h) (Or.inl ⟨by rfl, ?_⟩) rfl (fun _ => trivial) ?_
      rotate_left
      · (intro v hSw; subst hSw; go_simp; try with_reducible rfl)
      (try simp only [Act.put, List.getElem_toArray, List.getElem_cons_succ, List.getElem_cons_zero, List.setIfInBounds_toArray, List.set_cons_zero, List.set_cons_succ])
      refine HT.takeP (i := 1) (v := ?_) rfl (by kernel_rfl) (by kernel_rfl) (by kernel_rfl) (by kernel_rfl) (fun _ _ _ h => h) (Or.inl ⟨by rfl, ?_⟩) rfl (fun _ => trivial) ?_
      rotate_left
      · (intro v hSw; subst hSw; go_simp; try with_reducible rfl)
      (try simp only [Act.put, List.getElem_toArray, List.getElem_cons_succ, List.getElem_cons_zero, List.setIfInBounds_toArray, List.set_cons_zero, List.set_cons_succ])
      refine HT.takeP (i := 2) (v := ?_) rfl (by kernel_rfl) (by kernel_rfl) (by kernel_rfl) (by kernel_rfl) (fun _ _ _ h => h) (Or.inl ⟨by rfl, ?_⟩) rfl (fun _ => trivial) ?_
      rotate_left
      · (intro v hSw; subst hSw; go_simp; try with_reducible rfl)
      (try simp only [Act.put, List.getElem_toArray, List.getElem_cons_succ, List.getElem_cons_zero, List.setIfInBounds_toArray, List.set_cons_zero, List.set_cons_succ])
      refine HT.takeP (i := 3) (v := ?_) rfl (by kernel_rfl) (by kernel_rfl) (by kernel_rfl) (by kernel_rfl) (fun _ _ _ h => h) (Or.inl ⟨by rfl, ?_⟩) rfl (fun _ => trivial) ?_
      rotate_left
      · (intro v hSw; subst hSw; go_simp; try with_reducible rfl)
      (try simp only [Act.put, List.getElem_toArray, List.getElem_cons_succ, List.getElem_cons_zero, List.setIfInBounds_toArray, List.set_cons_zero, List.set_cons_succ])
      refine HT.takeP (i := 4) (v := ?_) rfl (by kernel_rfl) (by kernel_rfl) (by kernel_rfl) (by kernel_rfl) (fun _ _ _ h => h) (Or.inl ⟨by rfl, ?_⟩) rfl (fun _ => trivial) ?_
      rotate_left
      · (intro v hSw; subst hSw; go_simp; try with_reducible rfl)
      (try simp only [Act.put, List.getElem_toArray, List.getElem_cons_succ, List.getElem_cons_zero, List.setIfInBounds_toArray, List.set_cons_zero, List.set_cons_succ])
      refine HT.takeP (i := 5) (v := ?_) rfl (by kernel_rfl) (by kernel_rfl) (by kernel_rfl) (by kernel_rfl) (fun _ _ _ h => h) (Or.inl ⟨by rfl, ?_⟩) rfl (fun _ => trivial) ?_
      rotate_left
      · (intro v hSw; subst hSw; go_simp; try with_reducible rfl)
      (try simp only [Act.put, List.getElem_toArray, List.getElem_cons_succ, List.getElem_cons_zero, List.setIfInBounds_toArray, List.set_cons_zero, List.set_cons_succ])
      refine HT.takeP (i := 6) (v := ?_) rfl (by kernel_rfl) (by kernel_rfl) (by kernel_rfl) (by kernel_rfl) (fun _ _ _ h => h) (Or.inl ⟨by rfl, ?_⟩) rfl (fun _ => trivial) ?_
      rotate_left
      · (intro v hSw; subst hSw; go_simp; try with_reducible rfl)
      (try simp only [Act.put, List.getElem_toArray, List.getElem_cons_succ, List.getElem_cons_zero, List.setIfInBounds_toArray, List.set_cons_zero, List.set_cons_succ])
      refine HT.takeP (i := 7) (v := ?_) rfl (by kernel_rfl) (by kernel_rfl) (by kernel_rfl) (by kernel_rfl) (fun _ _ _ h => h) (Or.inl ⟨by rfl, ?_⟩) rfl (fun _ => trivial) ?_
      rotate_left
      · (intro v hSw; subst hSw; go_simp; try with_reducible rfl)
      (try simp only [Act.put, List.getElem_toArray, List.getElem_cons_succ, List.getElem_cons_zero, List.setIfInBounds_toArray, List.set_cons_zero, List.set_cons_succ])
      refine HT.takeP (i := 8) (v := ?_) rfl (by kernel_rfl) (by kernel_rfl) (by kernel_rfl) (by kernel_rfl) (fun _ _ _ h => h) (Or.inl ⟨by rfl, ?_⟩) rfl (fun _ => trivial) ?_
      rotate_left
      · (intro v hSw; subst hSw; go_simp; try with_reducible rfl)
      (try simp only [Act.put, List.getElem_toArray, List.getElem_cons_succ, List.getElem_cons_zero, List.setIfInBounds_toArray, List.set_cons_zero, List.set_cons_succ])
      refine HT.done (by kernel_rfl) ?_
      go_wp2_with fail
      go_roundw
      case rel => exact ⟨i + 1, by omega, by go_num, HBz⟩
      case measure => simp [intOf]; omega
    · have HEND := HBr
      go_wp2_with fail
      go_ret
      exact ⟨rfl, HEND.out⟩
end Go.Proofs.YtpoepignpdfleaaGreatDoor.Nm
/- DERIVED. The walk of NamesLeft. By an AI agent. -/
namespace Go.Proofs.YtpoepignpdfleaaGreatDoor.HT
open Go
variable {P : Program} {ops : Array Oper} {Q : Exit → Act → World → Prop} {md : Region.Mode} {Z S : World → Prop} {st : List Nat}
/-- One of two operations may come up. -/
theorem two {i j : Nat} {oi oj : Oper} {f : Nat} {listed : Array Bool} {a : Act} {w : World} (hr : Region.ready md ops listed = [i, j]) (hi : ops[i]? = some oi) (hj : ops[j]? = some oj)
    (h1 : ∀ K : Act → World → Prop, Shut (∀ a' w', Z w' → S w' → anyT P md ops Q Z S st f (listed.setIfInBounds i true) a' w' → K a' w') → if Region.wanted oi (yielded ops a.tmps) = true then Oper.wp P oi a w K Q else K (a.put oi.dst undef) w)
    (h2 : ∀ K : Act → World → Prop, Shut (∀ a' w', Z w' → S w' → anyT P md ops Q Z S st f (listed.setIfInBounds j true) a' w' → K a' w') → if Region.wanted oj (yielded ops a.tmps) = true then Oper.wp P oj a w K Q else K (a.put oj.dst undef) w) : anyT P md ops Q Z S st (f + 1) listed a w :=
  ⟨fun h0 => by rw [hr] at h0; (cases h0), fun k hk => by
    rw [hr] at hk
    rcases List.mem_cons.1 hk with rfl | hk
    · exact wpOp_step hi fun K hK => h1 K fun a' w' hZ hS hW => hK a' w' ⟨⟨hZ, fun _ => hS⟩, hW⟩
    · obtain rfl := List.mem_singleton.1 hk
      exact wpOp_step hj fun K hK => h2 K fun a' w' hZ hS hW => hK a' w' ⟨⟨hZ, fun _ => hS⟩, hW⟩⟩
end Go.Proofs.YtpoepignpdfleaaGreatDoor.HT
namespace Go.Proofs.YtpoepignpdfleaaGreatDoor.Nm
open Go Go.ChangeShapes Go.WideShapes Go.ChangeAt Go.RowKit Lx Args Pa Sh
set_option linter.unusedVariables false
set_option linter.unusedSimpArgs false
theorem bps_mem : ∀ {ps : List Bs} {p : Bs}, p ∈ ps → p.length ≤ bps ps
  | q :: ps, p, h => by
    show _ ≤ q.length + 1 + bps ps
    rcases List.mem_cons.1 h with rfl | h
    · omega
    · have := bps_mem h; omega
theorem bps_len : ∀ ps : List Bs, ps.length ≤ bps ps
  | [] => Nat.le_refl _
  | p :: ps => by
    have := bps_len ps
    show ps.length + 1 ≤ p.length + 1 + bps ps
    omega
theorem bz_mk (k a : Int) (s : Bs) (n : Nat) (ps : List Bs) (l : List Tz) : bz (.mk k a s n ps l) = s.length + bps ps + bzs l + 1 := rfl
theorem bzs_cons (x : Tz) (l : List Tz) : bzs (x :: l) = bz x + bzs l := rfl
mutual
theorem lenz_bz : ∀ (x : Tz), bz x ≤ maxLen → lenz x
  | .mk k a s n ps l, h => by
    rw [bz_mk] at h
    unfold lenz
    exact ⟨by omega, fun p hp => by have := bps_mem hp; omega, lenzs_bz l (by omega)⟩
theorem lenzs_bz : ∀ (l : List Tz), bzs l ≤ maxLen → lenzs l
  | [], _ => by unfold lenzs; trivial
  | x :: l, h => by
    rw [bzs_cons] at h
    unfold lenzs
    exact ⟨lenz_bz x (by omega), lenzs_bz l (by omega)⟩
end
mutual
theorem nbz_bz : ∀ (x : Tz), nbz x ≤ bz x
  | .mk k a s n ps l => by
    rw [bz_mk]
    have := nbzs_bz l
    have := bps_len ps
    unfold nbz
    omega
theorem nbzs_bz : ∀ (l : List Tz), nbzs l ≤ bzs l
  | [] => by unfold nbzs; exact Nat.zero_le _
  | x :: l => by
    rw [bzs_cons]
    have := nbz_bz x
    have := nbzs_bz l
    unfold nbzs
    omega
end
theorem bz_pos (x : Tz) : 1 ≤ bz x := by cases x; rw [bz_mk]; omega
theorem bzs_len : ∀ (l : List Tz), l.length ≤ bzs l
  | [] => Nat.le_refl _
  | x :: l => by
    rw [bzs_cons, List.length_cons]
    have := bzs_len l
    have := bz_pos x
    omega
theorem bzs_out : ∀ (l : List Tz) (k : Nat), bzs (l.take k ++ l.drop (k + 1)) ≤ bzs l
  | [], k => by simp
  | x :: l, 0 => by simp [bzs_cons]
  | x :: l, k + 1 => by
    rw [List.take_succ_cons, List.drop_succ_cons, List.cons_append, bzs_cons, bzs_cons]
    have := bzs_out l k
    omega
theorem split_at {l : List Tz} {k : Nat} {x : Tz} (h : l[k]? = some x) : l = l.take k ++ x :: l.drop (k + 1) := by
  rw [← drop_at h, List.take_append_drop]
theorem tsIc_one {q : Prop} {w : World} : ∀ {l : List Tz} {css : List (List Value)}, TsIc q w l css → ∀ u ∈ css.flatten, u.oneCell' = true
  | [], _, h, u, hu => by unfold TsIc at h; subst h; simp at hu
  | x :: l, _, h, u, hu => by
    unfold TsIc at h
    obtain ⟨c, r, rfl, h2, h3⟩ := h
    rw [List.flatten_cons] at hu
    rcases List.mem_append.1 hu with hu | hu
    · obtain ⟨_, _, _, _, _, _, _, _, _, _, rfl⟩ := tIz_cells h2
      simp only [nzC, List.mem_cons, List.not_mem_nil, or_false] at hu
      rcases hu with rfl | rfl | rfl | rfl | rfl | rfl <;> rfl
    · exact tsIc_one h3 u hu
theorem tsIc_append {q : Prop} {w : World} : ∀ {l l' : List Tz} {css css' : List (List Value)}, TsIc q w l css → TsIc q w l' css' → TsIc q w (l ++ l') (css ++ css')
  | [], _, _, _, h, h' => by unfold TsIc at h; subst h; exact h'
  | x :: l, l', _, css', h, h' => by
    unfold TsIc at h
    obtain ⟨c, r, rfl, h2, h3⟩ := h
    rw [List.cons_append, List.cons_append]
    unfold TsIc
    exact ⟨c, r ++ css', rfl, h2, tsIc_append h3 h'⟩
theorem own_capV {w : World} {lo : Nat} {e : TypeId} {size n c : Nat} {A : Option Addr} {xs : List Value} (h : w.ownsRow lo e size (.slice A n c) n xs) : n ≤ c ∧ c ≤ maxLen := by
  rcases h.2 with ⟨h, h0⟩ | ⟨g, cap, cur, h, _, _, h1, h2, _⟩
  · cases h; exact ⟨Nat.le_of_eq h0, by decide⟩
  · cases h; exact ⟨h1, h2⟩
theorem own_max {w : World} {lo : Nat} {e : TypeId} {size n : Nat} {v : Value} {xs : List Value} (h : w.ownsRow lo e size v n xs) : n ≤ maxLen := by
  rcases h.2 with ⟨_, h0⟩ | ⟨g, cap, cur, _, _, _, h1, h2, _⟩
  · rw [h0]; exact Nat.zero_le _
  · exact Nat.le_trans h1 h2
set_option maxRecDepth 100000 in
set_option maxHeartbeats 8000000 in
theorem walkL (W : World) (z : Tz) (cs : List Value) (hT : TIc True W z cs) (hbz : bz z ≤ 1048576) (a0 : Int) (hw : (Lit.int .u8 a0).wf = true) : Calls Tryz.prog 5 #[.agg cs.toArray, .int .u8 a0] W fun e W' => e = .returned (.bool true) ∧ Below W.heap.size W W' := by
  obtain ⟨hw0, hw1⟩ := bounds_u8 hw
  obtain ⟨m, rfl⟩ : ∃ m : Nat, a0 = (m : Int) := ⟨a0.toNat, by omega⟩
  obtain ⟨k0, a, s, n, A, la, cA, B, lb, cB, rfl⟩ := tIz_cells hT
  obtain ⟨k1, a1, s1, n1, ps, l⟩ := z
  obtain ⟨rfl, rfl, rfl, rfl, rfl, rfl, hl, hp, hB, css, hL, hS⟩ := tIz_parts hT
  have hcp := tIz_cap hT
  have hlm : l.length ≤ 9223372036854775807 := hl
  have hlb := bzs_len l
  rw [bz_mk] at hbz
  show Calls Tryz.prog 5 #[nzA k0 a s n A l.length cA B ps.length cB, .int .u8 (m : Int)] W _
  obtain ⟨w1, hw1', hb1, hX1, hs1⟩ := a_box W (nB k0 a s n A l.length cA B ps.length cB)
  have HSM := Lib.hid (small (.mk k0 a s n ps l) w1 k0 a s n A l.length cA B ps.length cB (TIz.below hb1 (tIz_weak hT)))
  obtain ⟨r, hr⟩ : ∃ r : Bool, decide (pa 300 3000 (.mk k0 a s n ps l) ≤ 3000) = r := ⟨_, rfl⟩
  rw [hr] at HSM
  have HX1 := Lib.hid hX1; have HB1 := Lib.hid hb1; have HW := Lib.hid hw1'; have HTT := Lib.hid hT; have HL := Lib.hid hL; have HS := Lib.hid hS; have HBZ := Lib.hid hbz
  obtain ⟨⟨e0, e1, e2, e3, e4, e5⟩, z0, z1, z2, z3, z4, z5⟩ := Blk.c6 hX1
  clear hr hX1 hb1 hw1' hT hs1 hL hS hB hw
  have hlt1 := HX1.out.lt
  go_enter Tryz.func5, Tryz.ntmps5
  go_upto_region 1 with fail
  rw [HW.out]
  go_wp2_with fail
  refine (show Calls Tryz.prog 11 #[nzA k0 a s n A l.length cA B ps.length cB] w1 _ from HSM.out).mono ?_
  rintro e w2 ⟨rfl, hb2⟩
  have HB2 := Lib.hid (HB1.out.trans (hb2.mono HB1.out.size))
  have HX2 := Lib.hid (HX1.out.below hb2 HX1.out.lt)
  have hlt2 := HX2.out.lt
  clear hb2 e0 e1 e2 e3 e4 e5 z0 z1 z2 z3 z4 z5
  obtain ⟨⟨e0, e1, e2, e3, e4, e5⟩, z0, z1, z2, z3, z4, z5⟩ := Blk.c6 HX2.out
  have HLI : Hid (∀ (wx : World) , Below W.heap.size W wx → Calls Tryz.prog 10 #[] wx fun e w' => e = .returned (.bool true) ∧ Below W.heap.size W w') := Lib.hid fun wx hbx => (lives wx).mono fun e w' h => ⟨h.1, hbx.trans (h.2.mono hbx.size)⟩
  cases r with
  | false =>
    go_wp2_with fail
    refine (HLI.out w2 HB2.out).mono ?_
    rintro e w3 ⟨rfl, hb3⟩
    have HB3 := Lib.hid hb3
    clear hb3
    go_wp2_with fail
    go_ret
    exact ⟨rfl, HB3.out⟩
  | true =>
  by_cases h0 : l.length = 0
  · have j0 : ((l.length : Int) == 0) = true := by simp [h0]
    go_wp2_with fail
    refine (HLI.out w2 HB2.out).mono ?_
    rintro e w3 ⟨rfl, hb3⟩
    have HB3 := Lib.hid hb3
    clear hb3
    go_wp2_with fail
    go_ret
    exact ⟨rfl, HB3.out⟩
  have j0 : ((l.length : Int) == 0) = false := beq_eq_false_iff_ne.2 (by omega)
  obtain ⟨k, hk⟩ : ∃ k, m % l.length = k := ⟨_, rfl⟩
  have hkl : k < l.length := by rw [← hk]; exact Nat.mod_lt _ (by omega)
  have hrem : Int.tmod (m : Int) (l.length : Int) = (k : Int) := by rw [← hk]; exact (Int.ofNat_tmod m l.length).symm
  obtain ⟨x, hx⟩ : ∃ x, l[k]? = some x := ⟨_, List.getElem?_eq_getElem hkl⟩
  have hsp := split_at hx
  obtain ⟨b2, o2, xk, xa, xs, xn, xA, xla, xcA, xB, xlb, xcB, rfl, hTx, hb2, g0, g1, g2, g3, g4, g5⟩ := partz_at HL.out HS.out hx
  obtain ⟨xk1, xa1, xs1, xn1, xps, xq⟩ := x
  obtain ⟨rfl, rfl, rfl, rfl, _⟩ := tIz_parts hTx
  have HG0 := Lib.hid g0; have HG1 := Lib.hid g1; have HSP := Lib.hid hsp
  have hlz : lenz (.mk k0 a s n ps l) := lenz_bz _ (by rw [bz_mk]; have := HBZ.out; unfold maxLen; omega)
  have hnz : nbz (.mk k0 a s n ps l) ≤ 1099511627776 := by have h1 := nbz_bz (.mk k0 a s n ps l); rw [bz_mk] at h1; have := HBZ.out; omega
  have HCK := Lib.hid (check (.mk k0 a s n ps l) hlz hnz w2 k0 a s n (some ⟨b2, o2, none⟩) l.length cA B ps.length cB (TIz.below HB2.out HTT.out))
  have hckB : ckB (.mk k0 a s n ps l) = stBs 0 l init := rfl
  obtain ⟨res, hres⟩ : ∃ res, ckB (.mk k0 a s n ps l) = res := ⟨_, rfl⟩
  have HRES := Lib.hid (hckB.symm.trans hres)
  rw [hres] at HCK
  clear hx hsp hTx g0 g1 g2 g3 g4 g5 hlz hnz hckB hres
  go_wp2_with fail
  refine (show Calls Tryz.prog 15 #[nzA k0 a s n (some ⟨b2, o2, none⟩) l.length cA B ps.length cB] w2 _ from HCK.out).mono ?_
  intro e w3 h3
  clear e0 e1 e2 e3 e4 e5 z0 z1 z2 z3 z4 z5 HCK
  have hW2 := HB2.out.size
  cases res with
  | bad ab =>
    have h3' : e = .returned (.tuple #[nA3, .int .i64 ab, .int .i64 120]) ∧ Below w2.heap.size w2 w3 := h3
    clear h3
    obtain ⟨rfl, hb3⟩ := h3'
    obtain ⟨w4, hw4⟩ : ∃ w4, w3.alloc (.cells #[.slice none 0 0, .slice none 0 0, .slice none 0 0] 29) = w4 := ⟨_, rfl⟩
    have hb4 : Below w3.heap.size w3 w4 := by rw [← hw4]; exact (Below.refl _ _).alloc (Nat.le_refl _) _
    have hb24 := hb3.trans (hb4.mono hb3.size)
    have hW4 := HB2.out.trans (hb24.mono hW2)
    obtain ⟨⟨e0, e1, e2, e3, e4, e5⟩, z0, z1, z2, z3, z4, z5⟩ := Blk.c6 (HX2.out.below hb24 HX2.out.lt)
    have g0 := (hW4.cell hb2).trans HG0.out
    have HLX := Lib.hid (HLI.out w4 hW4)
    have HW4 := Lib.hid hw4
    clear hb3 hb4 hb24 hW4 hw4
    go_upto_region 5 with fail
    rw [HW4.out]
    have hkk : xk = 8 ∨ xk = 9 ∨ (((xk == 8) = false ∧ (xk == 9) = false) ∧ ¬ xk = 8 ∧ ¬ xk = 9) := by
      by_cases h8 : xk = 8
      · exact .inl h8
      · by_cases h9 : xk = 9
        · exact .inr (.inl h9)
        · exact .inr (.inr ⟨⟨by simp; omega, by simp; omega⟩, h8, h9⟩)
    rcases hkk with rfl | rfl | ⟨⟨h8, h9⟩, h8', h9'⟩
    all_goals
      go_wp2_with fail
      refine HLX.out.mono ?_
      rintro e w5 ⟨rfl, hb5⟩
      have HB5 := Lib.hid hb5
      clear hb5
      go_wp2_with fail
      go_ret
      exact ⟨rfl, HB5.out⟩
  | ok c =>
  obtain ⟨vs, vp, vo, rfl, ⟨os, op, oo, hbd⟩, hb3⟩ := h3
  obtain ⟨As, cs, rfl⟩ := own_sl os
  obtain ⟨Ap, cp, rfl⟩ := own_sl op
  obtain ⟨Ao, co, rfl⟩ := own_sl oo
  obtain ⟨w4, hw4⟩ : ∃ w4, w3.alloc (.cells #[.slice As c.se.length cs, .slice Ap c.pu.length cp, .slice Ao c.ou.length co] 29) = w4 := ⟨_, rfl⟩
  have hb4 : Below w3.heap.size w3 w4 := by rw [← hw4]; exact (Below.refl _ _).alloc (Nat.le_refl _) _
  have hs4 : w4.heap.size = w3.heap.size + 1 := by rw [← hw4]; simp
  have hY4 : Blk w4 w3.heap.size 29 #[.slice As c.se.length cs, .slice Ap c.pu.length cp, .slice Ao c.ou.length co] := by rw [← hw4]; exact Blk.new _ _ _
  have hb24 := hb3.trans (hb4.mono hb3.size)
  have hW4 := HB2.out.trans (hb24.mono hW2)
  have hu34 : Upd (fun _ => False) w3 w4 := Upd.of_below hb4 _
  have HOS := Lib.hid (own_updV os hu34 fun _ _ h => h); have HOP := Lib.hid (own_updV op hu34 fun _ _ h => h); have HOO := Lib.hid (own_updV oo hu34 fun _ _ h => h)
  have HBD := Lib.hid hbd; have HY4 := Lib.hid hY4; have HX4 := Lib.hid (HX2.out.below hb24 HX2.out.lt); have HB4 := Lib.hid hW4; have HW4 := Lib.hid hw4
  have hsz24 := hb24.size
  obtain ⟨⟨e0, e1, e2, e3, e4, e5⟩, z0, z1, z2, z3, z4, z5⟩ := Blk.c6 HX4.out
  have g0 := (hW4.cell hb2).trans HG0.out
  clear os op oo hbd hb3 hb4 hY4 hb24 hW4 hu34 hw4
  go_upto_region 5 with fail
  rw [HW4.out]
  by_cases h89 : ¬ (xk = 8 ∨ xk = 9)
  · have h8 : (xk == 8) = false := by simp; omega
    have h9 : (xk == 9) = false := by simp; omega
    have h8' : ¬ xk = 8 := by omega
    have h9' : ¬ xk = 9 := by omega
    go_wp2_with fail
    refine (HLI.out w4 HB4.out).mono ?_
    rintro e w5 ⟨rfl, hb5⟩
    have HB5 := Lib.hid hb5
    clear hb5
    go_wp2_with fail
    go_ret
    exact ⟨rfl, HB5.out⟩
  replace h89 := Decidable.not_not.1 h89
  obtain ⟨d, hd, hdse, hdpu, hdou⟩ := left_out h89 (by rw [← HSP.out]; exact HRES.out)
  have HD := Lib.hid hd; have HDS := Lib.hid hdse; have HDP := Lib.hid hdpu; have HDO := Lib.hid hdou
  have hdr : Below w4.heap.size w4 w4.drew := Below.drew (Below.refl _ _)
  obtain ⟨wc, hwd⟩ : ∃ v, w4.drew = v := ⟨_, rfl⟩
  rw [hwd] at hdr
  have hk1 : (0 : Int) ≤ (k : Int) := by omega
  have hk2 : (k : Int) ≤ (l.length : Int) := by omega
  have hk3 : (k : Int) ≤ (cA : Int) := by omega
  have hk4 : (0 : Int) ≤ (k : Int) + 1 := by omega
  have hk5 : (k : Int) + 1 ≤ (l.length : Int) := by omega
  have hk7 : (k : Int) + 1 ≤ 9223372036854775807 := by omega
  have hk8 : -9223372036854775808 ≤ (k : Int) + 1 := by omega
  have hwr : IntKind.i64.wrap ((k : Int) + 1) = ((k + 1 : Nat) : Int) := by
    have h1 : (k : Int) + 1 = ((k + 1 : Nat) : Int) := by push_cast; rfl
    rw [h1]
    simp only [IntKind.wrap, IntKind.signed, IntKind.bits]
    simp
    omega
  have hk9 : (0 : Int) ≤ ((k + 1 : Nat) : Int) := by omega
  have hk10 : ((k + 1 : Nat) : Int) ≤ (l.length : Int) := by omega
  have hk6 : (l.length : Int) ≤ (cA : Int) := by omega
  have HXc := Lib.hid (HX4.out.below hdr HX4.out.lt)
  have HDR := Lib.hid hdr
  clear hd hdse hdpu hdou hdr
  obtain ⟨hS1, hS2, hS3, hS4⟩ := tsIc_take k HS.out
  obtain ⟨_, hS2', hS3', _⟩ := tsIc_take (k + 1) HS.out
  obtain ⟨n1, hn1⟩ : ∃ n1, (css.take k).flatten = n1 := ⟨_, rfl⟩
  obtain ⟨n2, hn2⟩ : ∃ n2, (css.drop (k + 1)).flatten = n2 := ⟨_, rfl⟩
  obtain ⟨m2, hm2⟩ : ∃ m2, l.length - (k + 1) = m2 := ⟨_, rfl⟩
  have hl1 : n1.length = k * 6 := by rw [← hn1, (tsIc_len hS1).2, List.length_take]; congr 1; omega
  have hl2 : n2.length = m2 * 6 := by rw [← hn2, (tsIc_len hS2').2, List.length_drop, hm2]
  have hone1 : ∀ u ∈ n1, u.oneCell' = true := by rw [← hn1]; exact tsIc_one hS1
  have hone2 : ∀ u ∈ n2, u.oneCell' = true := by rw [← hn2]; exact tsIc_one hS2'
  have HN1 : Hid (∀ w', Below W.heap.size W w' → Lies w' (some ⟨b2, o2, none⟩) n1) := Lib.hid fun w' hb' => by rw [← hn1]; exact (lies_take HL.out hS4).below hb'
  have HN2 : Hid (∀ w', Below W.heap.size W w' → Lies w' (if cA = k + 1 then some ⟨b2, o2, none⟩ else some ⟨b2, o2 + (k + 1) * 6, none⟩) n2) := Lib.hid fun w' hb' => by
    by_cases hc : cA = k + 1
    · have : n2 = [] := List.eq_nil_of_length_eq_zero (by rw [hl2]; have := hcp.1; omega)
      rw [this]; exact Lies.nil _ _
    · rw [if_neg hc, ← hn2, ← hS3']
      have := lies_add HL.out ((k + 1) * 6)
      rw [show (some (⟨b2, o2, none⟩ : Addr)).map (fun a => a.add ((k + 1) * 6)) = some ⟨b2, o2 + (k + 1) * 6, none⟩ from congrArg some (Args.add_plain _ _ _)] at this
      exact this.below hb'
  have hlt2' : (l.take k ++ l.drop (k + 1)).length = k + m2 := by rw [List.length_append, List.length_take, List.length_drop]; omega
  have HTR : Hid (∀ (w' : World) (Am : Option Addr) (cm : Nat), Below W.heap.size W w' → w'.ownsRow wc.heap.size 26 6 (.slice Am (k + m2) cm) (k + m2) (n1 ++ n2) → TIc True w' (.mk k0 0 [] 0 [] (l.take k ++ l.drop (k + 1))) (nzC k0 0 [] 0 Am (k + m2) cm none 0 0)) := Lib.hid fun w' Am cm hb' ho => by
    unfold TIc
    have hcap := own_capV ho
    rw [hlt2']
    exact ⟨Am, cm, none, 0, rfl, own_max ho, Nat.zero_le _, Lies.nil _ _, css.take k ++ css.drop (k + 1), by rw [List.flatten_append, hn1, hn2]; exact lies_own ho, TsIz.below hb' (tsIc_append hS1 hS2'), fun _ => hcap⟩
  have hbo := bzs_out l k
  have hlz2 : lenz (.mk k0 0 [] 0 [] (l.take k ++ l.drop (k + 1))) := lenz_bz _ (by rw [bz_mk]; have := HBZ.out; simp only [List.length_nil, bps]; unfold maxLen; omega)
  have hnz2 : nbz (.mk k0 0 [] 0 [] (l.take k ++ l.drop (k + 1))) ≤ 1099511627776 := by have h1 := nbz_bz (.mk k0 0 [] 0 [] (l.take k ++ l.drop (k + 1))); rw [bz_mk] at h1; have := HBZ.out; simp only [List.length_nil, bps] at h1; omega
  have HCM : Hid (∀ (w' : World) (Am : Option Addr) (cm : Nat), TIc True w' (.mk k0 0 [] 0 [] (l.take k ++ l.drop (k + 1))) (nzC k0 0 [] 0 Am (k + m2) cm none 0 0) → Calls Tryz.prog 15 #[nzA k0 0 [] 0 Am (k + m2) cm none 0 0] w' (ChkP w' (.ok d))) := Lib.hid fun w' Am cm ht => by
    rw [← HD.out]
    exact check _ hlz2 hnz2 w' k0 0 [] 0 Am (k + m2) cm none 0 0 ht
  have HBc := Lib.hid (HB4.out.trans (HDR.out.mono HB4.out.size))
  have HYc := Lib.hid (HY4.out.below HDR.out HY4.out.lt)
  have HUc : Hid (Upd (fun _ => False) w4 wc) := Lib.hid (Upd.of_below HDR.out _)
  have HOSc := Lib.hid (own_updV HOS.out HUc.out fun _ _ h => h); have HOPc := Lib.hid (own_updV HOP.out HUc.out fun _ _ h => h); have HOOc := Lib.hid (own_updV HOO.out HUc.out fun _ _ h => h)
  have hs4c := HDR.out.size
  obtain ⟨i0, hi, hz⟩ := Option.map_eq_some_iff.1 infoNd
  have hz0 := congrArg (·.1) hz; have hz1 := congrArg (·.2.1) hz; have hz2 := congrArg (·.2.2) hz
  have HI := Lib.hid hi; have HZ0 := Lib.hid hz0; have HZ1 := Lib.hid hz1; have HZ2 := Lib.hid hz2
  obtain ⟨j0', hj, hy⟩ := Option.map_eq_some_iff.1 infoL
  have hy0 := congrArg (·.1) hy; have hy1 := congrArg (·.2.1) hy; have hy2 := congrArg (·.2.2) hy
  have HJ := Lib.hid hj; have HJ0 := Lib.hid hy0; have HJ1 := Lib.hid hy1; have HJ2 := Lib.hid hy2
  have hkm : k + m2 ≤ 1048576 := by have := HBZ.out; omega
  clear hi hz hz0 hz1 hz2 hj hy hy0 hy1 hy2 hS1 hS2 hS3 hS4 hS2' hS3' hn1 hn2 hbo hlz2 hnz2 hlt2'
  have hZ0 : Below wc.heap.size wc wc := Below.refl _ _
  rcases h89 with rfl | rfl
  all_goals
    go_wp2_with fail
    rename_i Q0 K0 hK0
    have HREST : ∀ (g9 : Nat) (Am : Option Addr) (cm : Nat) (u15 u16 u17 u18 u19 u20 u21 u22 u23 u24 u25 u26 u27 u28 u29 u30 u31 u32 u33 u34 u35 u36 u37 u38 u39 u40 u41 u42 u43 u44 u45 u46 u47 u48 u49 u50 u51 u52 u53 u54 u55 u56 u57 u58 u59 u60 u61 u62 u63 u64 u65 u66 u67 u68 u69 u70 u71 u72 : Value) (wz : World), wc.heap.size ≤ g9 → Blk wz g9 26 #[.int .i64 k0, .string ⟨#[]⟩, .int .u32 0, .int .i64 0, .slice Am (k + m2) cm, .slice none 0 0] →
        TIc True wz (.mk k0 0 [] 0 [] (l.take k ++ l.drop (k + 1))) (nzC k0 0 [] 0 Am (k + m2) cm none 0 0) → Below wc.heap.size wc wz →
        K0 ⟨#[nzA k0 a s n (some ⟨b2, o2, none⟩) l.length cA B ps.length cB, .int .u8 (m : Int), .pointer (some ⟨W.heap.size, 0, none⟩), undef, .bool false, .int .i64 (k : Int), .pointer (some ⟨w3.heap.size, 0, none⟩), .int .i64 0, .int .i64 0, .pointer (some ⟨g9, 0, none⟩), undef, undef, undef, undef, undef, u15, u16, u17, u18, u19, u20, u21, u22, u23, u24, u25, u26, u27, u28, u29, u30, u31, u32, u33, u34, u35, u36, u37, u38, u39, u40, u41, u42, u43, u44, u45, u46, u47, u48, u49, u50, u51, u52, u53, u54, u55, u56, u57, u58, u59, u60, u61, u62, u63, u64, u65, u66, u67, u68, u69, u70, u71, u72, undef, undef, undef, undef, undef, undef, undef, undef, undef, undef, undef, undef, undef, undef, undef, undef, undef, undef, undef, undef, undef, undef, undef, undef, undef, undef, undef, undef, undef, undef, undef, undef, undef, undef, undef, undef, undef, undef, undef, undef, undef, undef, undef, undef, undef, undef, undef, undef, undef, undef, undef, undef, undef, undef, undef, undef, undef, undef, undef, undef, undef, undef, undef, undef], []⟩ wz := by
      intro g9 Am cm u15 u16 u17 u18 u19 u20 u21 u22 u23 u24 u25 u26 u27 u28 u29 u30 u31 u32 u33 u34 u35 u36 u37 u38 u39 u40 u41 u42 u43 u44 u45 u46 u47 u48 u49 u50 u51 u52 u53 u54 u55 u56 u57 u58 u59 u60 u61 u62 u63 u64 u65 u66 u67 u68 u69 u70 u71 u72 wz hg9 hbx hTm hbz
      refine hK0 _ _ ?_
      have hWz : Below W.heap.size W wz := HBc.out.trans (hbz.mono HBc.out.size)
      have HCM2 := Lib.hid (HCM.out wz Am cm hTm)
      have HBX := Lib.hid hbx
      obtain ⟨⟨e0, e1, e2, e3, e4, e5⟩, z0, z1, z2, z3, z4, z5⟩ := Blk.c6 hbx
      have HWz := Lib.hid hWz; have HBZ2 := Lib.hid hbz
      clear hK0 hbx hTm hbz hWz
      go_wp2_with fail
      refine (show Calls Tryz.prog 15 #[nzA k0 0 [] 0 Am (k + m2) cm none 0 0] wz _ from HCM2.out).mono ?_
      intro e w6 h6
      clear e0 e1 e2 e3 e4 e5 z0 z1 z2 z3 z4 z5
      obtain ⟨vs', vp', vo', rfl, ⟨os', op', oo', hbd'⟩, hb6⟩ := h6
      rw [HDS.out] at os'; rw [HDP.out] at op'; rw [HDO.out] at oo'
      obtain ⟨fo, hfo⟩ : ∃ fo, c.ou.filter (fun x => !(x.1 == xs)) = fo := ⟨_, rfl⟩
      rw [hfo] at oo'
      obtain ⟨As', cs', rfl⟩ := own_sl os'
      obtain ⟨Ap', cp', rfl⟩ := own_sl op'
      obtain ⟨Ao', co', rfl⟩ := own_sl oo'
      obtain ⟨w7, hw7⟩ : ∃ w7, w6.alloc (.cells #[.slice As' c.se.length cs', .slice Ap' c.pu.length cp', .slice Ao' fo.length co'] 29) = w7 := ⟨_, rfl⟩
      have hb7 : Below w6.heap.size w6 w7 := by rw [← hw7]; exact (Below.refl _ _).alloc (Nat.le_refl _) _
      have hY7 : Blk w7 w6.heap.size 29 #[.slice As' c.se.length cs', .slice Ap' c.pu.length cp', .slice Ao' fo.length co'] := by rw [← hw7]; exact Blk.new _ _ _
      obtain ⟨w8, hw8⟩ : ∃ w8, w7.alloc (.cells #[] 44) = w8 := ⟨_, rfl⟩
      have hb8 : Below w7.heap.size w7 w8 := by rw [← hw8]; exact (Below.refl _ _).alloc (Nat.le_refl _) _
      have ho8 : w8.ownsRow w7.heap.size 44 3 (.slice (some ⟨w7.heap.size, 0, none⟩) 0 0) 0 [] := by rw [← hw8]; exact own_full w7 (Nat.le_refl _) 44 3 0 [] rfl (by decide)
      have hbz7 := hb6.trans (hb7.mono hb6.size)
      have hbc7 := HBZ2.out.trans (hbz7.mono HBZ2.out.size)
      have HW7b := Lib.hid (HBc.out.trans (hbc7.mono HBc.out.size))
      have hu7 : Upd (fun _ => False) wc w7 := Upd.of_below hbc7 _
      have hu67 : Upd (fun _ => False) w6 w7 := Upd.of_below hb7 _
      have HOS7 := Lib.hid (own_updV HOSc.out hu7 fun _ _ h => h); have HOP7 := Lib.hid (own_updV HOPc.out hu7 fun _ _ h => h); have HOO7 := Lib.hid (own_updV HOOc.out hu7 fun _ _ h => h)
      have HOS7' := Lib.hid (own_updV os' hu67 fun _ _ h => h); have HOP7' := Lib.hid (own_updV op' hu67 fun _ _ h => h); have HOO7' := Lib.hid (own_updV oo' hu67 fun _ _ h => h)
      have HYa := Lib.hid (HYc.out.below hbc7 HYc.out.lt); have HXa := Lib.hid (HXc.out.below hbc7 HXc.out.lt); have HYb := Lib.hid hY7
      have HBR0 := Lib.hid hb8; have HWW7 := Lib.hid hw7; have HWW8 := Lib.hid hw8; have HFO := Lib.hid hfo
      have hs7 : w7.heap.size = w6.heap.size + 1 := by rw [← hw7]; simp
      have HOW := Lib.hid (show w8.ownsRow w7.heap.size 44 3 (.slice (some ⟨w6.heap.size + 1, 0, none⟩) 0 0) ((c.ou.take 0).filter (fun x => !(x.1 == xs))).length (((c.ou.take 0).filter (fun x => !(x.1 == xs))).flatMap laC) from by rw [List.take_zero, ← hs7]; exact ho8)
      clear hs7
      have hoc : c.ou.length ≤ 1099511627776 := HBD.out.2.2
      have hocm : c.ou.length ≤ 9223372036854775807 := by omega
      clear os' op' oo' hbd' hb6 hb7 hb8 ho8 hw7 hw8 hY7 hbz7 hbc7 hu7 hu67 hfo HCM2 HCM
      go_upto_region 8 with fail
      go_upto_region 9 with fail
      rw [HWW7.out]
      go_upto_region 10 with fail
      rw [HWW8.out]
      go_wp2_with fail
      go_loopw [13, 14] (fun va vi wr => ∃ (i : Nat) (v0 : Value), i ≤ c.ou.length ∧ v0 = va ∧ vi = .int .i64 (i : Int) ∧ Hid (wr.ownsRow w7.heap.size 44 3 v0 ((c.ou.take i).filter (fun x => !(x.1 == xs))).length (((c.ou.take i).filter (fun x => !(x.1 == xs))).flatMap laC)) ∧ Hid (Below w7.heap.size w7 wr)) (fun _ vi _ => c.ou.length - (intOf vi).toNat)
      case atStart => exact ⟨0, _, by omega, rfl, rfl, HOW, HBR0⟩
      case round =>
        obtain ⟨i, v0, hi, rfl, rfl, HOr, HBr⟩ := hrel
        have hWr : Below W.heap.size W wr := HW7b.out.trans (HBr.out.mono HW7b.out.size)
        have ha := HYa.out.below HBr.out HYa.out.lt
        have hxr := HXa.out.below HBr.out HXa.out.lt
        by_cases hlt : i < c.ou.length
        · obtain ⟨⟨p, q⟩, hx⟩ : ∃ x, c.ou[i]? = some x := ⟨_, List.getElem?_eq_getElem hlt⟩
          have hdr : Below wr.heap.size wr wr.drew := Below.drew (Below.refl _ _)
          obtain ⟨wq, hwd⟩ : ∃ v, wr.drew = v := ⟨_, rfl⟩
          rw [hwd] at hdr
          have hbq := HBr.out.trans (hdr.mono HBr.out.size)
          have hWq := HW7b.out.trans (hbq.mono HW7b.out.size)
          obtain ⟨b3, o3, rfl, hb3', f0, f1, f2⟩ := la_cells ((lies_own HOO7.out).below hbq) hx
          obtain ⟨d0, d1, d2, i0', i1, i2⟩ := Blk.c3 ha
          have hYq := HYa.out.below hbq HYa.out.lt
          have hXq := HXa.out.below hbq HXa.out.lt
          have G0 := Lib.hid ((hWq.cell hb2).trans HG0.out)
          have G1 := Lib.hid ((hWq.cell hb2).trans HG1.out)
          have F0 := Lib.hid f0; have F1 := Lib.hid f1; have F2 := Lib.hid f2; have HYQ := Lib.hid hYq; have HXQ := Lib.hid hXq; have HWD := Lib.hid hwd
          have HBq := Lib.hid hbq
          have HOq := Lib.hid (own_updV HOr.out (Upd.of_below hdr fun _ => False) fun _ _ h => h)
          have hft : (c.ou.take (i + 1)).filter (fun x => !(x.1 == xs)) = if p = xs then (c.ou.take i).filter (fun x => !(x.1 == xs)) else (c.ou.take i).filter (fun x => !(x.1 == xs)) ++ [(p, q)] := by
            rw [List.take_add_one, hx, Option.toList_some, List.filter_append]
            by_cases h : p = xs
            · rw [if_pos h, h]; simp
            · rw [if_neg h]; simp [h]
          have HFT := Lib.hid hft
          have hln : ((c.ou.take i).filter (fun x => !(x.1 == xs))).length ≤ 1099511627775 := by
            have h1 := List.length_filter_le (fun x => !(x.1 == xs)) (c.ou.take i)
            rw [List.length_take] at h1
            omega
          obtain ⟨fi, hfi⟩ : ∃ fi, (c.ou.take i).filter (fun x => !(x.1 == xs)) = fi := ⟨_, rfl⟩
          rw [hfi] at HOq HFT hln
          clear hfi
          clear hdr hbq hWq hx hWr ha hxr hft hYq hXq f0 f1 f2 hwd
          go_upto_region 13 with fail
          clear d0 d1 d2 i0' i1 i2
          obtain ⟨d0, d1, d2, i0', i1, i2⟩ := Blk.c3 HYQ.out
          obtain ⟨⟨e0, e1, e2, e3, e4, e5⟩, z0, z1, z2, z3, z4, z5⟩ := Blk.c6 HXQ.out
          have g0 := G0.out
          have g1 := G1.out
          have f0 := F0.out; have f1 := F1.out; have f2 := F2.out
          have hwd := HWD.out
          by_cases hpx : p = xs
          · subst hpx
            go_wp2_with fail
            refine HT.wp_region (Z := fun w' => w' = wq) (S := fun _ => True) (st := []) (by kernel_rfl) ?_
            rw [hwd]
            clear hwd
            refine HT.takeP (i := 0) (v := ?_) rfl (by kernel_rfl) (by kernel_rfl) (by kernel_rfl) (by kernel_rfl) (fun _ _ _ h => h) (Or.inl ⟨by rfl, ?_⟩) rfl (fun _ => trivial) ?_
            rotate_left
            · (intro v hSw; subst hSw; go_simp; try with_reducible rfl)
            (try simp only [Act.put, List.getElem_toArray, List.getElem_cons_succ, List.getElem_cons_zero, List.setIfInBounds_toArray, List.set_cons_zero, List.set_cons_succ])
            refine HT.takeP (i := 1) (v := ?_) rfl (by kernel_rfl) (by kernel_rfl) (by kernel_rfl) (by kernel_rfl) (fun _ _ _ h => h) (Or.inl ⟨by rfl, ?_⟩) rfl (fun _ => trivial) ?_
            rotate_left
            · (intro v hSw; subst hSw; go_simp; try with_reducible rfl)
            (try simp only [Act.put, List.getElem_toArray, List.getElem_cons_succ, List.getElem_cons_zero, List.setIfInBounds_toArray, List.set_cons_zero, List.set_cons_succ])
            refine HT.takeP (i := 2) (v := ?_) rfl (by kernel_rfl) (by kernel_rfl) (by kernel_rfl) (by kernel_rfl) (fun _ _ _ h => h) (Or.inl ⟨by rfl, ?_⟩) rfl (fun _ => trivial) ?_
            rotate_left
            · (intro v hSw; subst hSw; go_simp; try with_reducible rfl)
            (try simp only [Act.put, List.getElem_toArray, List.getElem_cons_succ, List.getElem_cons_zero, List.setIfInBounds_toArray, List.set_cons_zero, List.set_cons_succ])
            refine HT.takeP (i := 3) (v := ?_) rfl (by kernel_rfl) (by kernel_rfl) (by kernel_rfl) (by kernel_rfl) (fun _ _ _ h => h) (Or.inl ⟨by rfl, ?_⟩) rfl (fun _ => trivial) ?_
            rotate_left
            · (intro v hSw; subst hSw; go_simp; try with_reducible rfl)
            (try simp only [Act.put, List.getElem_toArray, List.getElem_cons_succ, List.getElem_cons_zero, List.setIfInBounds_toArray, List.set_cons_zero, List.set_cons_succ])
            refine HT.takeP (i := 4) (v := ?_) rfl (by kernel_rfl) (by kernel_rfl) (by kernel_rfl) (by kernel_rfl) (fun _ _ _ h => h) (Or.inl ⟨by rfl, ?_⟩) rfl (fun _ => trivial) ?_
            rotate_left
            · (intro v hSw; subst hSw; go_simp; try with_reducible rfl)
            (try simp only [Act.put, List.getElem_toArray, List.getElem_cons_succ, List.getElem_cons_zero, List.setIfInBounds_toArray, List.set_cons_zero, List.set_cons_succ])
            refine HT.takeP (i := 5) (v := ?_) rfl (by kernel_rfl) (by kernel_rfl) (by kernel_rfl) (by kernel_rfl) (fun _ _ _ h => h) (Or.inl ⟨by rfl, ?_⟩) rfl (fun _ => trivial) ?_
            rotate_left
            · (intro v hSw; subst hSw; go_simp; try with_reducible rfl)
            (try simp only [Act.put, List.getElem_toArray, List.getElem_cons_succ, List.getElem_cons_zero, List.setIfInBounds_toArray, List.set_cons_zero, List.set_cons_succ])
            refine HT.takeP (i := 6) (v := ?_) rfl (by kernel_rfl) (by kernel_rfl) (by kernel_rfl) (by kernel_rfl) (fun _ _ _ h => h) (Or.inl ⟨by rfl, ?_⟩) rfl (fun _ => trivial) ?_
            rotate_left
            · (intro v hSw; subst hSw; go_simp; try with_reducible rfl)
            (try simp only [Act.put, List.getElem_toArray, List.getElem_cons_succ, List.getElem_cons_zero, List.setIfInBounds_toArray, List.set_cons_zero, List.set_cons_succ])
            refine HT.takeP (i := 7) (v := ?_) rfl (by kernel_rfl) (by kernel_rfl) (by kernel_rfl) (by kernel_rfl) (fun _ _ _ h => h) (Or.inl ⟨by rfl, ?_⟩) rfl (fun _ => trivial) ?_
            rotate_left
            · (intro v hSw; subst hSw; go_simp; try with_reducible rfl)
            (try simp only [Act.put, List.getElem_toArray, List.getElem_cons_succ, List.getElem_cons_zero, List.setIfInBounds_toArray, List.set_cons_zero, List.set_cons_succ])
            refine HT.takeP (i := 8) (v := ?_) rfl (by kernel_rfl) (by kernel_rfl) (by kernel_rfl) (by kernel_rfl) (fun _ _ _ h => h) (Or.inl ⟨by rfl, ?_⟩) rfl (fun _ => trivial) ?_
            rotate_left
            · (intro v hSw; subst hSw; go_simp; try with_reducible rfl)
            (try simp only [Act.put, List.getElem_toArray, List.getElem_cons_succ, List.getElem_cons_zero, List.setIfInBounds_toArray, List.set_cons_zero, List.set_cons_succ])
            refine HT.takeP (i := 9) (v := ?_) rfl (by kernel_rfl) (by kernel_rfl) (by kernel_rfl) (by kernel_rfl) (fun _ _ _ h => h) (Or.inl ⟨by rfl, ?_⟩) rfl (fun _ => trivial) ?_
            rotate_left
            · (intro v hSw; subst hSw; go_simp; try with_reducible rfl)
            (try simp only [Act.put, List.getElem_toArray, List.getElem_cons_succ, List.getElem_cons_zero, List.setIfInBounds_toArray, List.set_cons_zero, List.set_cons_succ])
            refine HT.takeP (i := 10) (v := ?_) rfl (by kernel_rfl) (by kernel_rfl) (by kernel_rfl) (by kernel_rfl) (fun _ _ _ h => h) (Or.inl ⟨by rfl, ?_⟩) rfl (fun _ => trivial) ?_
            rotate_left
            · (intro v hSw; subst hSw; go_simp; try with_reducible rfl)
            (try simp only [Act.put, List.getElem_toArray, List.getElem_cons_succ, List.getElem_cons_zero, List.setIfInBounds_toArray, List.set_cons_zero, List.set_cons_succ])
            refine HT.takeP (i := 11) (v := ?_) rfl (by kernel_rfl) (by kernel_rfl) (by kernel_rfl) (by kernel_rfl) (fun _ _ _ h => h) (Or.inl ⟨by rfl, ?_⟩) rfl (fun _ => trivial) ?_
            rotate_left
            · (intro v hSw; subst hSw; go_simp; try with_reducible rfl)
            (try simp only [Act.put, List.getElem_toArray, List.getElem_cons_succ, List.getElem_cons_zero, List.setIfInBounds_toArray, List.set_cons_zero, List.set_cons_succ])
            refine HT.takeP (i := 12) (v := ?_) rfl (by kernel_rfl) (by kernel_rfl) (by kernel_rfl) (by kernel_rfl) (fun _ _ _ h => h) (Or.inl ⟨by rfl, ?_⟩) rfl (fun _ => trivial) ?_
            rotate_left
            · (intro v hSw; subst hSw; go_simp; try with_reducible rfl)
            (try simp only [Act.put, List.getElem_toArray, List.getElem_cons_succ, List.getElem_cons_zero, List.setIfInBounds_toArray, List.set_cons_zero, List.set_cons_succ])
            refine HT.done (by kernel_rfl) ?_
            go_wp2_with fail
            go_roundw
            case rel => exact ⟨i + 1, _, by omega, rfl, by go_num, Lib.hid (by have h := HFT.out; simp only [if_true, ite_true, if_pos] at h; rw [h]; exact HOq.out), HBq⟩
            case measure => simp [intOf]; omega
          · have hp1 : (p == xs) = false := by simpa using hpx
            obtain ⟨w9, hw9⟩ : ∃ w9, wq.alloc (.cells #[.string ⟨p.toArray⟩, .bool false, .bool q] 44) = w9 := ⟨_, rfl⟩
            have hb9 : Below wq.heap.size wq w9 := by rw [← hw9]; exact (Below.refl _ _).alloc (Nat.le_refl _) _
            have hL9 : Lies w9 (some ⟨wq.heap.size, 0, none⟩) (laC (p, q)) := by rw [← hw9]; exact lies_full _ _ (laC (p, q))
            have ho9 := own_updV HOq.out (Upd.of_below hb9 fun _ => False) fun _ _ h => h
            have HW9 := Lib.hid hw9; have HL9 := Lib.hid hL9; have HO9 := Lib.hid ho9; have HLO9 := Lib.hid (Nat.le_trans HBq.out.size hb9.size); have HB9 := Lib.hid (HBq.out.trans (hb9.mono HBq.out.size))
            clear hw9 hL9 ho9 hb9
            go_wp2_with fail
            refine HT.wp_region (Z := fun w' => w' = wq) (S := fun _ => True) (st := []) (by kernel_rfl) ?_
            rw [hwd]
            clear hwd
            refine HT.takeP (i := 0) (v := ?_) rfl (by kernel_rfl) (by kernel_rfl) (by kernel_rfl) (by kernel_rfl) (fun _ _ _ h => h) (Or.inl ⟨by rfl, ?_⟩) rfl (fun _ => trivial) ?_
            rotate_left
            · (intro v hSw; subst hSw; go_simp; try with_reducible rfl)
            (try simp only [Act.put, List.getElem_toArray, List.getElem_cons_succ, List.getElem_cons_zero, List.setIfInBounds_toArray, List.set_cons_zero, List.set_cons_succ])
            refine HT.takeP (i := 1) (v := ?_) rfl (by kernel_rfl) (by kernel_rfl) (by kernel_rfl) (by kernel_rfl) (fun _ _ _ h => h) (Or.inl ⟨by rfl, ?_⟩) rfl (fun _ => trivial) ?_
            rotate_left
            · (intro v hSw; subst hSw; go_simp; try with_reducible rfl)
            (try simp only [Act.put, List.getElem_toArray, List.getElem_cons_succ, List.getElem_cons_zero, List.setIfInBounds_toArray, List.set_cons_zero, List.set_cons_succ])
            refine HT.takeP (i := 2) (v := ?_) rfl (by kernel_rfl) (by kernel_rfl) (by kernel_rfl) (by kernel_rfl) (fun _ _ _ h => h) (Or.inl ⟨by rfl, ?_⟩) rfl (fun _ => trivial) ?_
            rotate_left
            · (intro v hSw; subst hSw; go_simp; try with_reducible rfl)
            (try simp only [Act.put, List.getElem_toArray, List.getElem_cons_succ, List.getElem_cons_zero, List.setIfInBounds_toArray, List.set_cons_zero, List.set_cons_succ])
            refine HT.takeP (i := 3) (v := ?_) rfl (by kernel_rfl) (by kernel_rfl) (by kernel_rfl) (by kernel_rfl) (fun _ _ _ h => h) (Or.inl ⟨by rfl, ?_⟩) rfl (fun _ => trivial) ?_
            rotate_left
            · (intro v hSw; subst hSw; go_simp; try with_reducible rfl)
            (try simp only [Act.put, List.getElem_toArray, List.getElem_cons_succ, List.getElem_cons_zero, List.setIfInBounds_toArray, List.set_cons_zero, List.set_cons_succ])
            refine HT.takeP (i := 4) (v := ?_) rfl (by kernel_rfl) (by kernel_rfl) (by kernel_rfl) (by kernel_rfl) (fun _ _ _ h => h) (Or.inl ⟨by rfl, ?_⟩) rfl (fun _ => trivial) ?_
            rotate_left
            · (intro v hSw; subst hSw; go_simp; try with_reducible rfl)
            (try simp only [Act.put, List.getElem_toArray, List.getElem_cons_succ, List.getElem_cons_zero, List.setIfInBounds_toArray, List.set_cons_zero, List.set_cons_succ])
            refine HT.takeP (i := 5) (v := ?_) rfl (by kernel_rfl) (by kernel_rfl) (by kernel_rfl) (by kernel_rfl) (fun _ _ _ h => h) (Or.inl ⟨by rfl, ?_⟩) rfl (fun _ => trivial) ?_
            rotate_left
            · (intro v hSw; subst hSw; go_simp; try with_reducible rfl)
            (try simp only [Act.put, List.getElem_toArray, List.getElem_cons_succ, List.getElem_cons_zero, List.setIfInBounds_toArray, List.set_cons_zero, List.set_cons_succ])
            refine HT.takeP (i := 6) (v := ?_) rfl (by kernel_rfl) (by kernel_rfl) (by kernel_rfl) (by kernel_rfl) (fun _ _ _ h => h) (Or.inl ⟨by rfl, ?_⟩) rfl (fun _ => trivial) ?_
            rotate_left
            · (intro v hSw; subst hSw; go_simp; try with_reducible rfl)
            (try simp only [Act.put, List.getElem_toArray, List.getElem_cons_succ, List.getElem_cons_zero, List.setIfInBounds_toArray, List.set_cons_zero, List.set_cons_succ])
            refine HT.takeP (i := 7) (v := ?_) rfl (by kernel_rfl) (by kernel_rfl) (by kernel_rfl) (by kernel_rfl) (fun _ _ _ h => h) (Or.inl ⟨by rfl, ?_⟩) rfl (fun _ => trivial) ?_
            rotate_left
            · (intro v hSw; subst hSw; go_simp; try with_reducible rfl)
            (try simp only [Act.put, List.getElem_toArray, List.getElem_cons_succ, List.getElem_cons_zero, List.setIfInBounds_toArray, List.set_cons_zero, List.set_cons_succ])
            refine HT.takeP (i := 8) (v := ?_) rfl (by kernel_rfl) (by kernel_rfl) (by kernel_rfl) (by kernel_rfl) (fun _ _ _ h => h) (Or.inl ⟨by rfl, ?_⟩) rfl (fun _ => trivial) ?_
            rotate_left
            · (intro v hSw; subst hSw; go_simp; try with_reducible rfl)
            (try simp only [Act.put, List.getElem_toArray, List.getElem_cons_succ, List.getElem_cons_zero, List.setIfInBounds_toArray, List.set_cons_zero, List.set_cons_succ])
            refine HT.takeP (i := 9) (v := ?_) rfl (by kernel_rfl) (by kernel_rfl) (by kernel_rfl) (by kernel_rfl) (fun _ _ _ h => h) (Or.inl ⟨by rfl, ?_⟩) rfl (fun _ => trivial) ?_
            rotate_left
            · (intro v hSw; subst hSw; go_simp; try with_reducible rfl)
            (try simp only [Act.put, List.getElem_toArray, List.getElem_cons_succ, List.getElem_cons_zero, List.setIfInBounds_toArray, List.set_cons_zero, List.set_cons_succ])
            refine HT.takeP (i := 10) (v := ?_) rfl (by kernel_rfl) (by kernel_rfl) (by kernel_rfl) (by kernel_rfl) (fun _ _ _ h => h) (Or.inl ⟨by rfl, ?_⟩) rfl (fun _ => trivial) ?_
            rotate_left
            · (intro v hSw; subst hSw; go_simp; try with_reducible rfl)
            (try simp only [Act.put, List.getElem_toArray, List.getElem_cons_succ, List.getElem_cons_zero, List.setIfInBounds_toArray, List.set_cons_zero, List.set_cons_succ])
            refine HT.takeP (i := 11) (v := ?_) rfl (by kernel_rfl) (by kernel_rfl) (by kernel_rfl) (by kernel_rfl) (fun _ _ _ h => h) (Or.inl ⟨by rfl, ?_⟩) rfl (fun _ => trivial) ?_
            rotate_left
            · (intro v hSw; subst hSw; go_simp; try with_reducible rfl)
            (try simp only [Act.put, List.getElem_toArray, List.getElem_cons_succ, List.getElem_cons_zero, List.setIfInBounds_toArray, List.set_cons_zero, List.set_cons_succ])
            refine HT.takeP (i := 12) (v := ?_) rfl (by kernel_rfl) (by kernel_rfl) (by kernel_rfl) (by kernel_rfl) (fun _ _ _ h => h) (Or.inl ⟨by rfl, ?_⟩) rfl (fun _ => trivial) ?_
            rotate_left
            · (intro v hSw; subst hSw; go_simp; try with_reducible rfl)
            (try simp only [Act.put, List.getElem_toArray, List.getElem_cons_succ, List.getElem_cons_zero, List.setIfInBounds_toArray, List.set_cons_zero, List.set_cons_succ])
            refine HT.done (by kernel_rfl) ?_
            go_wp2_with (at_builtin; rw [HW9.out]; refine wpList_where rfl _ _ 27 rfl w7.heap.size 44 j0' (.agg #[.string ⟨#[]⟩, .bool false, .bool false]) 3 24 Tryz.underlying27 HJ.out HJ0.out HJ1.out HJ2.out rfl (by decide) _ fi.length _ rfl HO9.out ⟨wq.heap.size, 0, none⟩ 1 1 (laC (p, q)) rfl rfl HL9.out (by simp [laC, Value.oneCell']) (by unfold maxLen; omega) (by omega) HLO9.out (by decide) ?_; intro g8 c8 wt hE; have HE8 := Lib.hid hE; clear hE)
            have hut : Upd (fun b => v0.ownBlock = some b) w9 wt := (Upd.refl _ _).grown HE8.out.grown fun b hb _ => hb
            have HBt := Lib.hid (HB9.out.trans (hut.below (B := w7.heap.size) HLO9.out fun b hb => (own_atV HO9.out b hb).1))
            have HOt := Lib.hid (show wt.ownsRow w7.heap.size 44 3 (.slice (some ⟨g8, 0, none⟩) (fi.length + 1) c8) ((c.ou.take (i + 1)).filter (fun x => !(x.1 == xs))).length (((c.ou.take (i + 1)).filter (fun x => !(x.1 == xs))).flatMap laC) from by
              have h := HFT.out
              rw [if_neg hpx] at h
              rw [h, List.length_append, List.flatMap_append]
              exact HE8.out.own)
            clear hut
            go_roundw
            case rel => exact ⟨i + 1, _, by omega, rfl, by go_num, HOt, HBt⟩
            case measure => simp [intOf]; omega
        · obtain rfl : i = c.ou.length := by omega
          have hO := HOr.out
          rw [List.take_length, HFO.out] at hO
          obtain ⟨d0, d1, d2, i0', i1, i2⟩ := Blk.c3 ha
          obtain ⟨t0, t1, t2, y0, y1, y2⟩ := Blk.c3 (HYb.out.below HBr.out HYb.out.lt)
          have hur : Upd (fun _ => False) w7 wr := Upd.of_below HBr.out _
          have hfl : fo.length ≤ maxLen := own_max hO
          have HLB := Lib.hid (labels fo wr _ _ _ _ (own_updV HOO7'.out hur fun _ _ h => h) hO hfl)
          have HNS : Hid (∀ wx, Below w7.heap.size w7 wx → Calls Tryz.prog 12 #[.slice As c.se.length cs, .slice As' c.se.length cs'] wx fun e w' => e = .returned (.bool true) ∧ Below wx.heap.size wx w') := Lib.hid fun wx hbx => by
            have h := names_ c.se c.se wx _ _ _ _ (own_updV HOS7.out (Upd.of_below hbx fun _ => False) fun _ _ h => h) (own_updV HOS7'.out (Upd.of_below hbx fun _ => False) fun _ _ h => h) (own_max HOS7.out) (own_max HOS7.out)
            rw [show (c.se == c.se) = true by simp] at h
            exact h
          have HNP : Hid (∀ wx, Below w7.heap.size w7 wx → Calls Tryz.prog 12 #[.slice Ap c.pu.length cp, .slice Ap' c.pu.length cp'] wx fun e w' => e = .returned (.bool true) ∧ Below wx.heap.size wx w') := Lib.hid fun wx hbx => by
            have h := names_ c.pu c.pu wx _ _ _ _ (own_updV HOP7.out (Upd.of_below hbx fun _ => False) fun _ _ h => h) (own_updV HOP7'.out (Upd.of_below hbx fun _ => False) fun _ _ h => h) (own_max HOP7.out) (own_max HOP7.out)
            rw [show (c.pu == c.pu) = true by simp] at h
            exact h
          have HYA := Lib.hid ha; have HYB := Lib.hid (HYb.out.below HBr.out HYb.out.lt)
          clear hO hur hxr ha hWr
          go_wp2_with fail
          refine HLB.out.mono ?_
          rintro e wa ⟨rfl, hba⟩
          have hb7a := HBr.out.trans (hba.mono HBr.out.size)
          have HB7a := Lib.hid hb7a
          clear d0 d1 d2 i0' i1 i2 t0 t1 t2 y0 y1 y2
          obtain ⟨d0, d1, d2, i0', i1, i2⟩ := Blk.c3 (HYA.out.below hba HYA.out.lt)
          obtain ⟨t0, t1, t2, y0, y1, y2⟩ := Blk.c3 (HYB.out.below hba HYB.out.lt)
          have HN1a := Lib.hid (HNS.out wa hb7a)
          clear hba hb7a
          go_wp2_with fail
          refine HN1a.out.mono ?_
          rintro e wb ⟨rfl, hbb⟩
          have hb7b := HB7a.out.trans (hbb.mono HB7a.out.size)
          have HB7b := Lib.hid hb7b
          clear d0 d1 d2 i0' i1 i2 t0 t1 t2 y0 y1 y2
          obtain ⟨d0, d1, d2, i0', i1, i2⟩ := Blk.c3 (HYa.out.below hb7b HYa.out.lt)
          obtain ⟨t0, t1, t2, y0, y1, y2⟩ := Blk.c3 (HYb.out.below hb7b HYb.out.lt)
          have HN2b := Lib.hid (HNP.out wb hb7b)
          clear hbb hb7b
          go_wp2_with fail
          refine HN2b.out.mono ?_
          rintro e wd' ⟨rfl, hbd''⟩
          have HB7d := Lib.hid (HB7b.out.trans (hbd''.mono HB7b.out.size))
          have HLV := Lib.hid (HLI.out wd' (HW7b.out.trans (HB7d.out.mono HW7b.out.size)))
          clear hbd''
          go_wp2_with fail
          refine HLV.out.mono ?_
          rintro e we ⟨rfl, hbe⟩
          have HBE := Lib.hid hbe
          clear hbe
          go_wp2_with fail
          go_ret
          exact ⟨rfl, HBE.out⟩
    have HR := Lib.hid HREST
    clear HREST hK0
    refine HT.wp_region (Z := fun w' => Below wc.heap.size wc w') (S := fun _ => True) (st := []) (by kernel_rfl) ?_
    rw [hwd]
    clear hwd
    refine HT.takeP (i := 0) (v := ?_) rfl (by kernel_rfl) (by kernel_rfl) (by kernel_rfl) (by kernel_rfl) (fun _ _ _ h => h) (Or.inl ⟨by rfl, ?_⟩) hZ0 (fun _ => trivial) ?_
    rotate_left
    · (intro v hSw; have hA := HXc.out.below hSw HXc.out.lt; obtain ⟨⟨e0, e1, e2, e3, e4, e5⟩, z0, z1, z2, z3, z4, z5⟩ := Blk.c6 hA; clear hSw hA; go_simp; try with_reducible rfl)
    (try simp only [Act.put, List.getElem_toArray, List.getElem_cons_succ, List.getElem_cons_zero, List.setIfInBounds_toArray, List.set_cons_zero, List.set_cons_succ])
    refine HT.takeP (i := 1) (v := ?_) rfl (by kernel_rfl) (by kernel_rfl) (by kernel_rfl) (by kernel_rfl) (fun _ _ _ h => h) (Or.inl ⟨by rfl, ?_⟩) hZ0 (fun _ => trivial) ?_
    rotate_left
    · (intro v hSw; have hA := HXc.out.below hSw HXc.out.lt; obtain ⟨⟨e0, e1, e2, e3, e4, e5⟩, z0, z1, z2, z3, z4, z5⟩ := Blk.c6 hA; clear hSw hA; go_simp; try with_reducible rfl)
    (try simp only [Act.put, List.getElem_toArray, List.getElem_cons_succ, List.getElem_cons_zero, List.setIfInBounds_toArray, List.set_cons_zero, List.set_cons_succ])
    refine HT.takeP (i := 3) (v := ?_) rfl (by kernel_rfl) (by kernel_rfl) (by kernel_rfl) (by kernel_rfl) (fun _ _ _ h => h) (Or.inl ⟨by rfl, ?_⟩) hZ0 (fun _ => trivial) ?_
    rotate_left
    · (intro v hSw; have hA := HXc.out.below hSw HXc.out.lt; obtain ⟨⟨e0, e1, e2, e3, e4, e5⟩, z0, z1, z2, z3, z4, z5⟩ := Blk.c6 hA; clear hSw hA; go_simp; try with_reducible rfl)
    (try simp only [Act.put, List.getElem_toArray, List.getElem_cons_succ, List.getElem_cons_zero, List.setIfInBounds_toArray, List.set_cons_zero, List.set_cons_succ])
    refine HT.takeP (i := 4) (v := ?_) rfl (by kernel_rfl) (by kernel_rfl) (by kernel_rfl) (by kernel_rfl) (fun _ _ _ h => h) (Or.inl ⟨by rfl, ?_⟩) hZ0 (fun _ => trivial) ?_
    rotate_left
    · (intro v hSw; have hA := HXc.out.below hSw HXc.out.lt; obtain ⟨⟨e0, e1, e2, e3, e4, e5⟩, z0, z1, z2, z3, z4, z5⟩ := Blk.c6 hA; clear hSw hA; go_simp; try with_reducible rfl)
    (try simp only [Act.put, List.getElem_toArray, List.getElem_cons_succ, List.getElem_cons_zero, List.setIfInBounds_toArray, List.set_cons_zero, List.set_cons_succ])
    refine HT.takeP (i := 5) (v := ?_) rfl (by kernel_rfl) (by kernel_rfl) (by kernel_rfl) (by kernel_rfl) (fun _ _ _ h => h) (Or.inl ⟨by rfl, ?_⟩) hZ0 (fun _ => trivial) ?_
    rotate_left
    · (intro v hSw; have hA := HXc.out.below hSw HXc.out.lt; obtain ⟨⟨e0, e1, e2, e3, e4, e5⟩, z0, z1, z2, z3, z4, z5⟩ := Blk.c6 hA; clear hSw hA; go_simp; try with_reducible rfl)
    (try simp only [Act.put, List.getElem_toArray, List.getElem_cons_succ, List.getElem_cons_zero, List.setIfInBounds_toArray, List.set_cons_zero, List.set_cons_succ])
    refine HT.takeP (i := 6) (v := ?_) rfl (by kernel_rfl) (by kernel_rfl) (by kernel_rfl) (by kernel_rfl) (fun _ _ _ h => h) (Or.inl ⟨by rfl, ?_⟩) hZ0 (fun _ => trivial) ?_
    rotate_left
    · (intro v hSw; have hA := HXc.out.below hSw HXc.out.lt; obtain ⟨⟨e0, e1, e2, e3, e4, e5⟩, z0, z1, z2, z3, z4, z5⟩ := Blk.c6 hA; clear hSw hA; go_simp; try with_reducible rfl)
    (try simp only [Act.put, List.getElem_toArray, List.getElem_cons_succ, List.getElem_cons_zero, List.setIfInBounds_toArray, List.set_cons_zero, List.set_cons_succ])
    refine HT.takeP (i := 8) (v := ?_) rfl (by kernel_rfl) (by kernel_rfl) (by kernel_rfl) (by kernel_rfl) (fun _ _ _ h => h) (Or.inl ⟨by rfl, ?_⟩) hZ0 (fun _ => trivial) ?_
    rotate_left
    · (intro v hSw; have hA := HXc.out.below hSw HXc.out.lt; obtain ⟨⟨e0, e1, e2, e3, e4, e5⟩, z0, z1, z2, z3, z4, z5⟩ := Blk.c6 hA; clear hSw hA; go_simp; try with_reducible rfl)
    (try simp only [Act.put, List.getElem_toArray, List.getElem_cons_succ, List.getElem_cons_zero, List.setIfInBounds_toArray, List.set_cons_zero, List.set_cons_succ])
    refine HT.takeP (i := 9) (v := ?_) rfl (by kernel_rfl) (by kernel_rfl) (by kernel_rfl) (by kernel_rfl) (fun _ _ _ h => h) (Or.inl ⟨by rfl, ?_⟩) hZ0 (fun _ => trivial) ?_
    rotate_left
    · (intro v hSw; have hA := HXc.out.below hSw HXc.out.lt; obtain ⟨⟨e0, e1, e2, e3, e4, e5⟩, z0, z1, z2, z3, z4, z5⟩ := Blk.c6 hA; clear hSw hA; go_simp; try with_reducible rfl)
    (try simp only [Act.put, List.getElem_toArray, List.getElem_cons_succ, List.getElem_cons_zero, List.setIfInBounds_toArray, List.set_cons_zero, List.set_cons_succ])
    refine HT.takeP (i := 10) (v := ?_) rfl (by kernel_rfl) (by kernel_rfl) (by kernel_rfl) (by kernel_rfl) (fun _ _ _ h => h) (Or.inl ⟨by rfl, ?_⟩) hZ0 (fun _ => trivial) ?_
    rotate_left
    · (intro v hSw; have hA := HXc.out.below hSw HXc.out.lt; obtain ⟨⟨e0, e1, e2, e3, e4, e5⟩, z0, z1, z2, z3, z4, z5⟩ := Blk.c6 hA; clear hSw hA; go_simp; try with_reducible rfl)
    (try simp only [Act.put, List.getElem_toArray, List.getElem_cons_succ, List.getElem_cons_zero, List.setIfInBounds_toArray, List.set_cons_zero, List.set_cons_succ])
    refine HT.takeP (i := 11) (v := ?_) rfl (by kernel_rfl) (by kernel_rfl) (by kernel_rfl) (by kernel_rfl) (fun _ _ _ h => h) (Or.inl ⟨by rfl, ?_⟩) hZ0 (fun _ => trivial) ?_
    rotate_left
    · (intro v hSw; have hA := HXc.out.below hSw HXc.out.lt; obtain ⟨⟨e0, e1, e2, e3, e4, e5⟩, z0, z1, z2, z3, z4, z5⟩ := Blk.c6 hA; clear hSw hA; go_simp; try with_reducible rfl)
    (try simp only [Act.put, List.getElem_toArray, List.getElem_cons_succ, List.getElem_cons_zero, List.setIfInBounds_toArray, List.set_cons_zero, List.set_cons_succ])
    refine HT.takeP (i := 12) (v := ?_) rfl (by kernel_rfl) (by kernel_rfl) (by kernel_rfl) (by kernel_rfl) (fun _ _ _ h => h) (Or.inl ⟨by rfl, ?_⟩) hZ0 (fun _ => trivial) ?_
    rotate_left
    · (intro v hSw; have hA := HXc.out.below hSw HXc.out.lt; obtain ⟨⟨e0, e1, e2, e3, e4, e5⟩, z0, z1, z2, z3, z4, z5⟩ := Blk.c6 hA; clear hSw hA; go_simp; (try simp only [hwr]); (try go_simp); (try simp only [Int.toNat_natCast, hm2]); try with_reducible rfl)
    (try simp only [Act.put, List.getElem_toArray, List.getElem_cons_succ, List.getElem_cons_zero, List.setIfInBounds_toArray, List.set_cons_zero, List.set_cons_succ])
    refine HT.two (i := 2) (j := 15) (by kernel_rfl) rfl rfl (fun K hK => ?_) (fun K hK => ?_)
    · go_simp
      obtain ⟨wr1, hw1⟩ : ∃ v, wc.alloc (.cells #[] 26) = v := ⟨_, rfl⟩
      rw [hw1]
      have hb1 : Below wc.heap.size wc wr1 := by rw [← hw1]; exact (Below.refl _ _).alloc (Nat.le_refl _) _
      have ho1 : wr1.ownsRow wc.heap.size 26 6 (.slice (some ⟨wc.heap.size, 0, none⟩) 0 0) 0 [] := by rw [← hw1]; exact own_full wc hZ0.size 26 6 0 [] rfl (by decide)
      have hz1 := hZ0.trans (hb1.mono hZ0.size)
      refine hK.out _ _ hz1 trivial ?_
      clear hK K
      (try simp only [Act.put, List.getElem_toArray, List.getElem_cons_succ, List.getElem_cons_zero, List.setIfInBounds_toArray, List.set_cons_zero, List.set_cons_succ])
      refine HT.two (i := 7) (j := 15) (by kernel_rfl) rfl rfl (fun K hK => ?_) (fun K hK => ?_)
      · have hN2 := HN1.out wr1 (HBc.out.trans (hz1.mono HBc.out.size))
        refine step_any rfl (.tmp 60) (.tmp 64) 23 rfl wc.heap.size 26 i0 (.agg #[.int .i64 0, .string ⟨#[]⟩, .int .u32 0, .int .i64 0, .slice none 0 0, .slice none 0 0]) 6 88 Tryz.underlying23 HI.out HZ0.out HZ1.out HZ2.out rfl (by decide) (.slice (some ⟨wc.heap.size, 0, none⟩) 0 0) 0 [] rfl ho1 _ k _ n1 (by rfl) hl1 hN2 hone1 (by unfold maxLen; omega) (by omega) hz1.size ?_
        intro v2 wr2 hown2 hgrow2 hat2
        have hu2 : Upd (fun b => Value.ownBlock (.slice (some ⟨wc.heap.size, 0, none⟩) 0 0) = some b) wr1 wr2 := (Upd.refl _ _).grown hgrow2 fun b hb _ => hb
        have hz2 := hz1.trans (hu2.below (B := wc.heap.size) hz1.size fun b hb => (own_atV ho1 b hb).1)
        rw [Nat.zero_add, List.nil_append] at hown2
        refine hK.out _ _ hz2 trivial ?_
        clear hK K
        (try simp only [Act.put, List.getElem_toArray, List.getElem_cons_succ, List.getElem_cons_zero, List.setIfInBounds_toArray, List.set_cons_zero, List.set_cons_succ])
        refine HT.two (i := 13) (j := 15) (by kernel_rfl) rfl rfl (fun K hK => ?_) (fun K hK => ?_)
        · have hN3 := HN2.out wr2 (HBc.out.trans (hz2.mono HBc.out.size))
          refine step_any rfl (.tmp 65) (.tmp 70) 23 rfl wc.heap.size 26 i0 (.agg #[.int .i64 0, .string ⟨#[]⟩, .int .u32 0, .int .i64 0, .slice none 0 0, .slice none 0 0]) 6 88 Tryz.underlying23 HI.out HZ0.out HZ1.out HZ2.out rfl (by decide) v2 k n1 rfl hown2 _ m2 _ n2 (by rfl) hl2 hN3 hone2 (by unfold maxLen; omega) (by omega) hz2.size ?_
          intro v3 wr3 hown3 hgrow3 hat3
          have hu3 : Upd (fun b => Value.ownBlock v2 = some b) wr2 wr3 := (Upd.refl _ _).grown hgrow3 fun b hb _ => hb
          have hz3 := hz2.trans (hu3.below (B := wc.heap.size) hz2.size fun b hb => (own_atV hown2 b hb).1)
          obtain ⟨Am, cm, rfl⟩ := own_sl hown3
          refine hK.out _ _ hz3 trivial ?_
          clear hK K
          (try simp only [Act.put, List.getElem_toArray, List.getElem_cons_succ, List.getElem_cons_zero, List.setIfInBounds_toArray, List.set_cons_zero, List.set_cons_succ])
          refine HT.takeP (i := 14) (v := ?_) rfl (by kernel_rfl) (by kernel_rfl) (by kernel_rfl) (by kernel_rfl) (fun _ _ _ h => h) (Or.inl ⟨by rfl, ?_⟩) hz3 (fun _ => trivial) ?_
          rotate_left
          · (intro v hSw; clear hSw; go_simp; try with_reducible rfl)
          (try simp only [Act.put, List.getElem_toArray, List.getElem_cons_succ, List.getElem_cons_zero, List.setIfInBounds_toArray, List.set_cons_zero, List.set_cons_succ])
          refine HT.one (i := 15) (by kernel_rfl) rfl (fun K hK => ?_)
          go_simp
          obtain ⟨wr4, hw4⟩ : ∃ v, wr3.alloc (.cells #[.int .i64 0, .string ⟨#[]⟩, .int .u32 0, .int .i64 0, .slice none 0 0, .slice none 0 0] 26) = v := ⟨_, rfl⟩
          rw [hw4]
          have hb4 : Below wr3.heap.size wr3 wr4 := by rw [← hw4]; exact (Below.refl _ _).alloc (Nat.le_refl _) _
          have hx4' : Blk wr4 wr3.heap.size 26 #[.int .i64 0, .string ⟨#[]⟩, .int .u32 0, .int .i64 0, .slice none 0 0, .slice none 0 0] := by rw [← hw4]; exact Blk.new _ _ _
          have hlo4' := hz3.size
          obtain ⟨gb4, hg4⟩ : ∃ g, wr3.heap.size = g := ⟨_, rfl⟩
          have hx4 : Blk wr4 gb4 26 #[.int .i64 0, .string ⟨#[]⟩, .int .u32 0, .int .i64 0, .slice none 0 0, .slice none 0 0] := by rw [← hg4]; exact hx4'
          have hlo4 : wc.heap.size ≤ gb4 := by rw [← hg4]; exact hlo4'
          rw [hg4]
          have hz4 := hz3.trans (hb4.mono hz3.size)
          have ho4 := own_updV hown3 (Upd.of_below hb4 fun _ => False) fun _ _ h => h
          have hne4 : Value.ownBlock (.slice Am (k + m2) cm) ≠ some gb4 := fun h => by have := (own_atV hown3 _ h).2; omega
          refine hK.out _ _ hz4 trivial ?_
          clear hK K
          (try simp only [Act.put, List.getElem_toArray, List.getElem_cons_succ, List.getElem_cons_zero, List.setIfInBounds_toArray, List.set_cons_zero, List.set_cons_succ])
          obtain ⟨⟨e0, e1, e2, e3, e4, e5⟩, z0, z1, z2, z3, z4, z5⟩ := Blk.c6 hx4
          have hlb9 := hx4.lt
          refine HT.one (i := 16) (by kernel_rfl) rfl (fun K hK => ?_)
          go_simp
          have hup : Upd (fun b => b = gb4) wr4 (put6 wr4 gb4 (.int .i64 k0) (.string ⟨#[]⟩) (.int .u32 0) (.int .i64 0) (.slice Am (k + m2) cm) (.slice none 0 0)) := put6_upd (X := fun b => b = gb4) (Upd.refl _ _) (fun _ => rfl) _ _ _ _ _ _
          have hzf := hz4.trans (hup.below (B := wc.heap.size) hz4.size fun x hx => by subst hx; exact hlo4)
          have hof := own_updV ho4 hup fun x hx h => hne4 (by rw [← h]; exact hx)
          refine hK.out _ _ hzf trivial ?_
          clear hK K
          (try simp only [Act.put, List.getElem_toArray, List.getElem_cons_succ, List.getElem_cons_zero, List.setIfInBounds_toArray, List.set_cons_zero, List.set_cons_succ])
          refine HT.done (by kernel_rfl) ?_
          dsimp only [Exit.then]
          exact HR.out gb4 Am cm _ _ _ _ _ _ _ _ _ _ _ _ _ _ _ _ _ _ _ _ _ _ _ _ _ _ _ _ _ _ _ _ _ _ _ _ _ _ _ _ _ _ _ _ _ _ _ _ _ _ _ _ _ _ _ _ _ _ _ hlo4 (Blk.put6 hx4 _ _ _ _ _ _) (HTR.out _ Am cm (HBc.out.trans (hzf.mono HBc.out.size)) hof) hzf
        · go_simp
          obtain ⟨wr5, hw5⟩ : ∃ v, wr2.alloc (.cells #[.int .i64 0, .string ⟨#[]⟩, .int .u32 0, .int .i64 0, .slice none 0 0, .slice none 0 0] 26) = v := ⟨_, rfl⟩
          rw [hw5]
          have hb5 : Below wr2.heap.size wr2 wr5 := by rw [← hw5]; exact (Below.refl _ _).alloc (Nat.le_refl _) _
          have hx5' : Blk wr5 wr2.heap.size 26 #[.int .i64 0, .string ⟨#[]⟩, .int .u32 0, .int .i64 0, .slice none 0 0, .slice none 0 0] := by rw [← hw5]; exact Blk.new _ _ _
          have hlo5' := hz2.size
          obtain ⟨gb5, hg5⟩ : ∃ g, wr2.heap.size = g := ⟨_, rfl⟩
          have hx5 : Blk wr5 gb5 26 #[.int .i64 0, .string ⟨#[]⟩, .int .u32 0, .int .i64 0, .slice none 0 0, .slice none 0 0] := by rw [← hg5]; exact hx5'
          have hlo5 : wc.heap.size ≤ gb5 := by rw [← hg5]; exact hlo5'
          rw [hg5]
          have hz5 := hz2.trans (hb5.mono hz2.size)
          have ho5 := own_updV hown2 (Upd.of_below hb5 fun _ => False) fun _ _ h => h
          have hne5 : Value.ownBlock v2 ≠ some gb5 := fun h => by have := (own_atV hown2 _ h).2; omega
          refine hK.out _ _ hz5 trivial ?_
          clear hK K
          (try simp only [Act.put, List.getElem_toArray, List.getElem_cons_succ, List.getElem_cons_zero, List.setIfInBounds_toArray, List.set_cons_zero, List.set_cons_succ])
          refine HT.one (i := 13) (by kernel_rfl) rfl (fun K hK => ?_)
          have hN6 := HN2.out wr5 (HBc.out.trans (hz5.mono HBc.out.size))
          refine step_any rfl (.tmp 65) (.tmp 70) 23 rfl wc.heap.size 26 i0 (.agg #[.int .i64 0, .string ⟨#[]⟩, .int .u32 0, .int .i64 0, .slice none 0 0, .slice none 0 0]) 6 88 Tryz.underlying23 HI.out HZ0.out HZ1.out HZ2.out rfl (by decide) v2 k n1 rfl ho5 _ m2 _ n2 (by rfl) hl2 hN6 hone2 (by unfold maxLen; omega) (by omega) hz5.size ?_
          intro v6 wr6 hown6 hgrow6 hat6
          have hu6 : Upd (fun b => Value.ownBlock v2 = some b) wr5 wr6 := (Upd.refl _ _).grown hgrow6 fun b hb _ => hb
          have hz6 := hz5.trans (hu6.below (B := wc.heap.size) hz5.size fun b hb => (own_atV ho5 b hb).1)
          obtain ⟨Am, cm, rfl⟩ := own_sl hown6
          have hx6 := hx5.upd hu6 hne5
          have hne6 : Value.ownBlock (.slice Am (k + m2) cm) ≠ some gb5 := fun h => by
            rcases hat6 with h' | h'
            · exact hne5 (h'.symm.trans h)
            · have h2 : wr5.heap.size = gb5 := Option.some.inj (h'.symm.trans h)
              have := hx5.lt
              omega
          refine hK.out _ _ hz6 trivial ?_
          clear hK K
          (try simp only [Act.put, List.getElem_toArray, List.getElem_cons_succ, List.getElem_cons_zero, List.setIfInBounds_toArray, List.set_cons_zero, List.set_cons_succ])
          refine HT.takeP (i := 14) (v := ?_) rfl (by kernel_rfl) (by kernel_rfl) (by kernel_rfl) (by kernel_rfl) (fun _ _ _ h => h) (Or.inl ⟨by rfl, ?_⟩) hz6 (fun _ => trivial) ?_
          rotate_left
          · (intro v hSw; clear hSw; go_simp; try with_reducible rfl)
          (try simp only [Act.put, List.getElem_toArray, List.getElem_cons_succ, List.getElem_cons_zero, List.setIfInBounds_toArray, List.set_cons_zero, List.set_cons_succ])
          obtain ⟨⟨e0, e1, e2, e3, e4, e5⟩, z0, z1, z2, z3, z4, z5⟩ := Blk.c6 hx6
          have hlb9 := hx6.lt
          refine HT.one (i := 16) (by kernel_rfl) rfl (fun K hK => ?_)
          go_simp
          have hup : Upd (fun b => b = gb5) wr6 (put6 wr6 gb5 (.int .i64 k0) (.string ⟨#[]⟩) (.int .u32 0) (.int .i64 0) (.slice Am (k + m2) cm) (.slice none 0 0)) := put6_upd (X := fun b => b = gb5) (Upd.refl _ _) (fun _ => rfl) _ _ _ _ _ _
          have hzf := hz6.trans (hup.below (B := wc.heap.size) hz6.size fun x hx => by subst hx; exact hlo5)
          have hof := own_updV hown6 hup fun x hx h => hne6 (by rw [← h]; exact hx)
          refine hK.out _ _ hzf trivial ?_
          clear hK K
          (try simp only [Act.put, List.getElem_toArray, List.getElem_cons_succ, List.getElem_cons_zero, List.setIfInBounds_toArray, List.set_cons_zero, List.set_cons_succ])
          refine HT.done (by kernel_rfl) ?_
          dsimp only [Exit.then]
          exact HR.out gb5 Am cm _ _ _ _ _ _ _ _ _ _ _ _ _ _ _ _ _ _ _ _ _ _ _ _ _ _ _ _ _ _ _ _ _ _ _ _ _ _ _ _ _ _ _ _ _ _ _ _ _ _ _ _ _ _ _ _ _ _ _ hlo5 (Blk.put6 hx6 _ _ _ _ _ _) (HTR.out _ Am cm (HBc.out.trans (hzf.mono HBc.out.size)) hof) hzf
      · go_simp
        obtain ⟨wr7, hw7⟩ : ∃ v, wr1.alloc (.cells #[.int .i64 0, .string ⟨#[]⟩, .int .u32 0, .int .i64 0, .slice none 0 0, .slice none 0 0] 26) = v := ⟨_, rfl⟩
        rw [hw7]
        have hb7 : Below wr1.heap.size wr1 wr7 := by rw [← hw7]; exact (Below.refl _ _).alloc (Nat.le_refl _) _
        have hx7' : Blk wr7 wr1.heap.size 26 #[.int .i64 0, .string ⟨#[]⟩, .int .u32 0, .int .i64 0, .slice none 0 0, .slice none 0 0] := by rw [← hw7]; exact Blk.new _ _ _
        have hlo7' := hz1.size
        obtain ⟨gb7, hg7⟩ : ∃ g, wr1.heap.size = g := ⟨_, rfl⟩
        have hx7 : Blk wr7 gb7 26 #[.int .i64 0, .string ⟨#[]⟩, .int .u32 0, .int .i64 0, .slice none 0 0, .slice none 0 0] := by rw [← hg7]; exact hx7'
        have hlo7 : wc.heap.size ≤ gb7 := by rw [← hg7]; exact hlo7'
        rw [hg7]
        have hz7 := hz1.trans (hb7.mono hz1.size)
        have ho7 := own_updV ho1 (Upd.of_below hb7 fun _ => False) fun _ _ h => h
        have hne7 : Value.ownBlock (.slice (some ⟨wc.heap.size, 0, none⟩) 0 0) ≠ some gb7 := fun h => by have := (own_atV ho1 _ h).2; omega
        refine hK.out _ _ hz7 trivial ?_
        clear hK K
        (try simp only [Act.put, List.getElem_toArray, List.getElem_cons_succ, List.getElem_cons_zero, List.setIfInBounds_toArray, List.set_cons_zero, List.set_cons_succ])
        refine HT.one (i := 7) (by kernel_rfl) rfl (fun K hK => ?_)
        have hN8 := HN1.out wr7 (HBc.out.trans (hz7.mono HBc.out.size))
        refine step_any rfl (.tmp 60) (.tmp 64) 23 rfl wc.heap.size 26 i0 (.agg #[.int .i64 0, .string ⟨#[]⟩, .int .u32 0, .int .i64 0, .slice none 0 0, .slice none 0 0]) 6 88 Tryz.underlying23 HI.out HZ0.out HZ1.out HZ2.out rfl (by decide) (.slice (some ⟨wc.heap.size, 0, none⟩) 0 0) 0 [] rfl ho7 _ k _ n1 (by rfl) hl1 hN8 hone1 (by unfold maxLen; omega) (by omega) hz7.size ?_
        intro v8 wr8 hown8 hgrow8 hat8
        have hu8 : Upd (fun b => Value.ownBlock (.slice (some ⟨wc.heap.size, 0, none⟩) 0 0) = some b) wr7 wr8 := (Upd.refl _ _).grown hgrow8 fun b hb _ => hb
        have hz8 := hz7.trans (hu8.below (B := wc.heap.size) hz7.size fun b hb => (own_atV ho7 b hb).1)
        rw [Nat.zero_add, List.nil_append] at hown8
        have hx8 := hx7.upd hu8 hne7
        have hne8 : Value.ownBlock v8 ≠ some gb7 := fun h => by
          rcases hat8 with h' | h'
          · exact hne7 (h'.symm.trans h)
          · have h2 : wr7.heap.size = gb7 := Option.some.inj (h'.symm.trans h)
            have := hx7.lt
            omega
        refine hK.out _ _ hz8 trivial ?_
        clear hK K
        (try simp only [Act.put, List.getElem_toArray, List.getElem_cons_succ, List.getElem_cons_zero, List.setIfInBounds_toArray, List.set_cons_zero, List.set_cons_succ])
        refine HT.one (i := 13) (by kernel_rfl) rfl (fun K hK => ?_)
        have hN9 := HN2.out wr8 (HBc.out.trans (hz8.mono HBc.out.size))
        refine step_any rfl (.tmp 65) (.tmp 70) 23 rfl wc.heap.size 26 i0 (.agg #[.int .i64 0, .string ⟨#[]⟩, .int .u32 0, .int .i64 0, .slice none 0 0, .slice none 0 0]) 6 88 Tryz.underlying23 HI.out HZ0.out HZ1.out HZ2.out rfl (by decide) v8 k n1 rfl hown8 _ m2 _ n2 (by rfl) hl2 hN9 hone2 (by unfold maxLen; omega) (by omega) hz8.size ?_
        intro v9 wr9 hown9 hgrow9 hat9
        have hu9 : Upd (fun b => Value.ownBlock v8 = some b) wr8 wr9 := (Upd.refl _ _).grown hgrow9 fun b hb _ => hb
        have hz9 := hz8.trans (hu9.below (B := wc.heap.size) hz8.size fun b hb => (own_atV hown8 b hb).1)
        obtain ⟨Am, cm, rfl⟩ := own_sl hown9
        have hx9 := hx8.upd hu9 hne8
        have hne9 : Value.ownBlock (.slice Am (k + m2) cm) ≠ some gb7 := fun h => by
          rcases hat9 with h' | h'
          · exact hne8 (h'.symm.trans h)
          · have h2 : wr8.heap.size = gb7 := Option.some.inj (h'.symm.trans h)
            have := hx8.lt
            omega
        refine hK.out _ _ hz9 trivial ?_
        clear hK K
        (try simp only [Act.put, List.getElem_toArray, List.getElem_cons_succ, List.getElem_cons_zero, List.setIfInBounds_toArray, List.set_cons_zero, List.set_cons_succ])
        refine HT.takeP (i := 14) (v := ?_) rfl (by kernel_rfl) (by kernel_rfl) (by kernel_rfl) (by kernel_rfl) (fun _ _ _ h => h) (Or.inl ⟨by rfl, ?_⟩) hz9 (fun _ => trivial) ?_
        rotate_left
        · (intro v hSw; clear hSw; go_simp; try with_reducible rfl)
        (try simp only [Act.put, List.getElem_toArray, List.getElem_cons_succ, List.getElem_cons_zero, List.setIfInBounds_toArray, List.set_cons_zero, List.set_cons_succ])
        obtain ⟨⟨e0, e1, e2, e3, e4, e5⟩, z0, z1, z2, z3, z4, z5⟩ := Blk.c6 hx9
        have hlb9 := hx9.lt
        refine HT.one (i := 16) (by kernel_rfl) rfl (fun K hK => ?_)
        go_simp
        have hup : Upd (fun b => b = gb7) wr9 (put6 wr9 gb7 (.int .i64 k0) (.string ⟨#[]⟩) (.int .u32 0) (.int .i64 0) (.slice Am (k + m2) cm) (.slice none 0 0)) := put6_upd (X := fun b => b = gb7) (Upd.refl _ _) (fun _ => rfl) _ _ _ _ _ _
        have hzf := hz9.trans (hup.below (B := wc.heap.size) hz9.size fun x hx => by subst hx; exact hlo7)
        have hof := own_updV hown9 hup fun x hx h => hne9 (by rw [← h]; exact hx)
        refine hK.out _ _ hzf trivial ?_
        clear hK K
        (try simp only [Act.put, List.getElem_toArray, List.getElem_cons_succ, List.getElem_cons_zero, List.setIfInBounds_toArray, List.set_cons_zero, List.set_cons_succ])
        refine HT.done (by kernel_rfl) ?_
        dsimp only [Exit.then]
        exact HR.out gb7 Am cm _ _ _ _ _ _ _ _ _ _ _ _ _ _ _ _ _ _ _ _ _ _ _ _ _ _ _ _ _ _ _ _ _ _ _ _ _ _ _ _ _ _ _ _ _ _ _ _ _ _ _ _ _ _ _ _ _ _ _ hlo7 (Blk.put6 hx9 _ _ _ _ _ _) (HTR.out _ Am cm (HBc.out.trans (hzf.mono HBc.out.size)) hof) hzf
    · go_simp
      obtain ⟨wr10, hw10⟩ : ∃ v, wc.alloc (.cells #[.int .i64 0, .string ⟨#[]⟩, .int .u32 0, .int .i64 0, .slice none 0 0, .slice none 0 0] 26) = v := ⟨_, rfl⟩
      rw [hw10]
      have hb10 : Below wc.heap.size wc wr10 := by rw [← hw10]; exact (Below.refl _ _).alloc (Nat.le_refl _) _
      have hx10' : Blk wr10 wc.heap.size 26 #[.int .i64 0, .string ⟨#[]⟩, .int .u32 0, .int .i64 0, .slice none 0 0, .slice none 0 0] := by rw [← hw10]; exact Blk.new _ _ _
      have hlo10' := hZ0.size
      obtain ⟨gb10, hg10⟩ : ∃ g, wc.heap.size = g := ⟨_, rfl⟩
      have hx10 : Blk wr10 gb10 26 #[.int .i64 0, .string ⟨#[]⟩, .int .u32 0, .int .i64 0, .slice none 0 0, .slice none 0 0] := by rw [← hg10]; exact hx10'
      have hlo10 : wc.heap.size ≤ gb10 := by rw [← hg10]; exact hlo10'
      rw [hg10]
      have hz10 := hZ0.trans (hb10.mono hZ0.size)
      refine hK.out _ _ hz10 trivial ?_
      clear hK K
      (try simp only [Act.put, List.getElem_toArray, List.getElem_cons_succ, List.getElem_cons_zero, List.setIfInBounds_toArray, List.set_cons_zero, List.set_cons_succ])
      refine HT.one (i := 2) (by kernel_rfl) rfl (fun K hK => ?_)
      go_simp
      obtain ⟨wr11, hw11⟩ : ∃ v, wr10.alloc (.cells #[] 26) = v := ⟨_, rfl⟩
      rw [hw11]
      have hb11 : Below wr10.heap.size wr10 wr11 := by rw [← hw11]; exact (Below.refl _ _).alloc (Nat.le_refl _) _
      have ho11 : wr11.ownsRow wc.heap.size 26 6 (.slice (some ⟨wr10.heap.size, 0, none⟩) 0 0) 0 [] := by rw [← hw11]; exact own_full wr10 hz10.size 26 6 0 [] rfl (by decide)
      have hz11 := hz10.trans (hb11.mono hz10.size)
      have hx11 := hx10.below hb11 hx10.lt
      have hne11 : (Value.slice (some ⟨wr10.heap.size, 0, none⟩) 0 0).ownBlock ≠ some gb10 := fun h => by have h' : wr10.heap.size = gb10 := Option.some.inj h; have := hx10.lt; omega
      refine hK.out _ _ hz11 trivial ?_
      clear hK K
      (try simp only [Act.put, List.getElem_toArray, List.getElem_cons_succ, List.getElem_cons_zero, List.setIfInBounds_toArray, List.set_cons_zero, List.set_cons_succ])
      refine HT.one (i := 7) (by kernel_rfl) rfl (fun K hK => ?_)
      have hN12 := HN1.out wr11 (HBc.out.trans (hz11.mono HBc.out.size))
      refine step_any rfl (.tmp 60) (.tmp 64) 23 rfl wc.heap.size 26 i0 (.agg #[.int .i64 0, .string ⟨#[]⟩, .int .u32 0, .int .i64 0, .slice none 0 0, .slice none 0 0]) 6 88 Tryz.underlying23 HI.out HZ0.out HZ1.out HZ2.out rfl (by decide) (.slice (some ⟨wr10.heap.size, 0, none⟩) 0 0) 0 [] rfl ho11 _ k _ n1 (by rfl) hl1 hN12 hone1 (by unfold maxLen; omega) (by omega) hz11.size ?_
      intro v12 wr12 hown12 hgrow12 hat12
      have hu12 : Upd (fun b => Value.ownBlock (.slice (some ⟨wr10.heap.size, 0, none⟩) 0 0) = some b) wr11 wr12 := (Upd.refl _ _).grown hgrow12 fun b hb _ => hb
      have hz12 := hz11.trans (hu12.below (B := wc.heap.size) hz11.size fun b hb => (own_atV ho11 b hb).1)
      rw [Nat.zero_add, List.nil_append] at hown12
      have hx12 := hx11.upd hu12 hne11
      have hne12 : Value.ownBlock v12 ≠ some gb10 := fun h => by
        rcases hat12 with h' | h'
        · exact hne11 (h'.symm.trans h)
        · have h2 : wr11.heap.size = gb10 := Option.some.inj (h'.symm.trans h)
          have := hx11.lt
          omega
      refine hK.out _ _ hz12 trivial ?_
      clear hK K
      (try simp only [Act.put, List.getElem_toArray, List.getElem_cons_succ, List.getElem_cons_zero, List.setIfInBounds_toArray, List.set_cons_zero, List.set_cons_succ])
      refine HT.one (i := 13) (by kernel_rfl) rfl (fun K hK => ?_)
      have hN13 := HN2.out wr12 (HBc.out.trans (hz12.mono HBc.out.size))
      refine step_any rfl (.tmp 65) (.tmp 70) 23 rfl wc.heap.size 26 i0 (.agg #[.int .i64 0, .string ⟨#[]⟩, .int .u32 0, .int .i64 0, .slice none 0 0, .slice none 0 0]) 6 88 Tryz.underlying23 HI.out HZ0.out HZ1.out HZ2.out rfl (by decide) v12 k n1 rfl hown12 _ m2 _ n2 (by rfl) hl2 hN13 hone2 (by unfold maxLen; omega) (by omega) hz12.size ?_
      intro v13 wr13 hown13 hgrow13 hat13
      have hu13 : Upd (fun b => Value.ownBlock v12 = some b) wr12 wr13 := (Upd.refl _ _).grown hgrow13 fun b hb _ => hb
      have hz13 := hz12.trans (hu13.below (B := wc.heap.size) hz12.size fun b hb => (own_atV hown12 b hb).1)
      obtain ⟨Am, cm, rfl⟩ := own_sl hown13
      have hx13 := hx12.upd hu13 hne12
      have hne13 : Value.ownBlock (.slice Am (k + m2) cm) ≠ some gb10 := fun h => by
        rcases hat13 with h' | h'
        · exact hne12 (h'.symm.trans h)
        · have h2 : wr12.heap.size = gb10 := Option.some.inj (h'.symm.trans h)
          have := hx12.lt
          omega
      refine hK.out _ _ hz13 trivial ?_
      clear hK K
      (try simp only [Act.put, List.getElem_toArray, List.getElem_cons_succ, List.getElem_cons_zero, List.setIfInBounds_toArray, List.set_cons_zero, List.set_cons_succ])
      refine HT.takeP (i := 14) (v := ?_) rfl (by kernel_rfl) (by kernel_rfl) (by kernel_rfl) (by kernel_rfl) (fun _ _ _ h => h) (Or.inl ⟨by rfl, ?_⟩) hz13 (fun _ => trivial) ?_
      rotate_left
      · (intro v hSw; clear hSw; go_simp; try with_reducible rfl)
      (try simp only [Act.put, List.getElem_toArray, List.getElem_cons_succ, List.getElem_cons_zero, List.setIfInBounds_toArray, List.set_cons_zero, List.set_cons_succ])
      obtain ⟨⟨e0, e1, e2, e3, e4, e5⟩, z0, z1, z2, z3, z4, z5⟩ := Blk.c6 hx13
      have hlb9 := hx13.lt
      refine HT.one (i := 16) (by kernel_rfl) rfl (fun K hK => ?_)
      go_simp
      have hup : Upd (fun b => b = gb10) wr13 (put6 wr13 gb10 (.int .i64 k0) (.string ⟨#[]⟩) (.int .u32 0) (.int .i64 0) (.slice Am (k + m2) cm) (.slice none 0 0)) := put6_upd (X := fun b => b = gb10) (Upd.refl _ _) (fun _ => rfl) _ _ _ _ _ _
      have hzf := hz13.trans (hup.below (B := wc.heap.size) hz13.size fun x hx => by subst hx; exact hlo10)
      have hof := own_updV hown13 hup fun x hx h => hne13 (by rw [← h]; exact hx)
      refine hK.out _ _ hzf trivial ?_
      clear hK K
      (try simp only [Act.put, List.getElem_toArray, List.getElem_cons_succ, List.getElem_cons_zero, List.setIfInBounds_toArray, List.set_cons_zero, List.set_cons_succ])
      refine HT.done (by kernel_rfl) ?_
      dsimp only [Exit.then]
      exact HR.out gb10 Am cm _ _ _ _ _ _ _ _ _ _ _ _ _ _ _ _ _ _ _ _ _ _ _ _ _ _ _ _ _ _ _ _ _ _ _ _ _ _ _ _ _ _ _ _ _ _ _ _ _ _ _ _ _ _ _ _ _ _ _ hlo10 (Blk.put6 hx13 _ _ _ _ _ _) (HTR.out _ Am cm (HBc.out.trans (hzf.mono HBc.out.size)) hof) hzf
end Go.Proofs.YtpoepignpdfleaaGreatDoor.Nm
