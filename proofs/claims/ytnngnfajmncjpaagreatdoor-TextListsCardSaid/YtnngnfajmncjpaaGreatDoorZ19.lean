/- DERIVED. TxParse in one text. By an AI agent. -/
import Derived.Test.YtnngnfajmncjpaaGreatDoorZ16
import Derived.Test.YtnngnfajmncjpaaGreatDoorZ18
/- DERIVED. The contract of the program's Parse: the instruction of which a text is, if there is one. By an AI agent. -/
namespace Go.Proofs.YtnngnfajmncjpaaGreatDoor.Tx
open Go.ChangeShapes Go.WideShapes Go.ChangeAt Go.RowKit Go.Lib Go.Sort Args
set_option linter.unusedVariables false
/-- What Parse leaves: the one instruction with this text; or, if there is none, the error. -/
def PsEnd (l : Txt) (w : World) (e : Ending) (w' : World) : Prop :=
  ((∃ (k : Nat) (s : Nm), Okk k s ∧ showL k s = l ∧ e = .returned (.tuple #[.agg #[.int .i64 k, .int .i64 s.d, .int .i64 s.n, .int .i64 s.m, .int .i64 s.i], .int .i64 0])) ∨
    ((∀ (k : Nat) (s : Nm), Okk k s → showL k s ≠ l) ∧ e = .returned (.tuple #[.agg #[.int .i64 0, .int .i64 0, .int .i64 0, .int .i64 0, .int .i64 0], .int .i64 4]))) ∧ Below w.heap.size w w'
structure PsInv (n0 nb : Nat) (w wr : World) : Prop where
  res : Blk wr n0 50 #[.int .i64 0, .int .i64 0, .int .i64 0, .int .i64 0, .int .i64 0]
  shp : ∀ j, j < 21 → wr.cell? ⟨nb, j, none⟩ = some (.string ⟨(shpN j).toArray⟩)
  low : Below n0 w wr
theorem PsInv.below {n0 nb : Nat} {w wr w' : World} (h : PsInv n0 nb w wr) (hb : Below wr.heap.size wr w') : PsInv n0 nb w w' :=
  ⟨Blk.below h.res hb (Blk.lt h.res), fun j hj => (hb.cell (p := ⟨nb, j, none⟩) (World.block_lt_of_cell? _ _ (h.shp j hj))).trans (h.shp j hj), h.low.trans (hb.mono (Nat.le_of_lt (Blk.lt h.res)))⟩
set_option maxHeartbeats 8000000 in
set_option maxRecDepth 100000 in
theorem parseC (l : Txt) (hl : l.length ≤ 1000000) (hix : IxOK l) (w : World) (hL : Lw w) :
    Calls Tryz.prog 17 #[.string ⟨l.toArray⟩] w (PsEnd l w) := by
  have hsp : ∀ S W, S = shpT → Lw W → Calls Tryz.prog 29 #[.string S, .string ⟨#[10]⟩] W fun e w' => ∃ n, e = .returned (.slice (some ⟨n, 0, none⟩) 21 21) ∧ (∀ j, j < 21 → w'.cell? ⟨n, j, none⟩ = some (.string ⟨(shpN j).toArray⟩)) ∧ Below W.heap.size W w' := fun S W hS hW => splitC S hS W hW
  have HIX := Lib.hid hix; have HL := Lib.hid hL; have HS := Lib.hid hsp
  have hb0 := Blk.new w 50 #[.int .i64 0, .int .i64 0, .int .i64 0, .int .i64 0, .int .i64 0]
  have HB0 := Lib.hid hb0
  clear hix hL hsp hb0
  go_enter Tryz.func17, Tryz.ntmps17
  go_wp2_with fail
  refine (HS.out _ _ (by rfl) (HL.out.below ((Below.refl _ _).alloc (Nat.le_refl _) _))).mono ?_
  rintro e w1 ⟨nb, rfl, hx, hb1⟩
  have hinv : PsInv w.heap.size nb w w1 := ⟨Blk.below HB0.out hb1 (by simp), hx, ((Below.refl _ _).alloc (Nat.le_refl _) _).trans (hb1.mono (by simp))⟩
  have HI := Lib.hid hinv
  clear hinv hx hb1
  generalize hn0 : w.heap.size = n0 at *
  have hLw : ∀ W, Below n0 w W → Lw W := fun W hb => HL.out.below (hn0 ▸ hb)
  have hyes : ∀ (k : Nat) (s : Nm) (W : World), Okk k s → showL k s = l → Below n0 w W → PsEnd l w (.returned (.tuple #[.agg #[.int .i64 k, .int .i64 s.d, .int .i64 s.n, .int .i64 s.m, .int .i64 s.i], .int .i64 0])) W := fun k s W h1 h2 h3 => ⟨Or.inl ⟨k, s, h1, h2, rfl⟩, hn0 ▸ h3⟩
  have hno : ∀ (W : World), (∀ (k : Nat) (s : Nm), Okk k s → showL k s ≠ l) → Below n0 w W → PsEnd l w (.returned (.tuple #[.agg #[.int .i64 0, .int .i64 0, .int .i64 0, .int .i64 0, .int .i64 0], .int .i64 4])) W := fun W h1 h3 => ⟨Or.inr ⟨h1, rfl⟩, hn0 ▸ h3⟩
  have HLW := Lib.hid hLw; have HY := Lib.hid hyes; have HN := Lib.hid hno
  clear hLw hn0 hyes hno
  go_wp2_with fail
  go_loopg [10] 21 (fun g vi wr => ∃ (k : Nat), g = 21 - k ∧ k ≤ 21 ∧ vi = .int .i64 k ∧ Hid (PsInv n0 nb w wr ∧ ∀ (j : Nat) (s : Nm), j < k → Okk j s → showL j s ≠ l))
  case atStart => exact ⟨0, by omega, by omega, rfl, Lib.hid ⟨HI.out, fun j s hj => absurd hj (by omega)⟩⟩
  case round =>
    obtain ⟨k, rfl, hk, rfl, HH⟩ := hrel
    clear HI
    by_cases hlt : k < 21
    · have hc := HH.out.1.shp k hlt
      have hrd := fun W hW => readC (shpN k) (fun c hc => by have := List.all_eq_true.1 (asc_shp ⟨k, hlt⟩).1 c hc; simpa using this) (asc_shp ⟨k, hlt⟩).2 k l hl HIX.out W hW
      have HRD := Lib.hid hrd
      clear hrd
      go_wp2_with fail
      refine (HRD.out _ (HLW.out _ HH.out.1.low)).mono ?_
      rintro e W2 ⟨o, s, b, rfl, hb, ho, hb2⟩
      cases hr : rd (shpN k) l Nm.nul with
      | none =>
        have hbf : b = false := by rw [hb, hr]; rfl
        subst hbf
        have hnx : ∀ (j : Nat) (s : Nm), j < k + 1 → Okk j s → showL j s ≠ l := fun j s hj hok he => by
          by_cases hjk : j = k
          · subst hjk
            have h := rd_show hok
            rw [he, hr] at h
            cases h
          · exact HH.out.2 j s (by omega) hok he
        have HNX := Lib.hid hnx
        have H3 := Lib.hid (((HH.out.1.below hb2)).below (w' := W2.alloc (.cells #[.int .i64 o, .int .i64 s.d, .int .i64 s.n, .int .i64 s.m, .int .i64 s.i] 50)) ((Below.refl _ _).alloc (Nat.le_refl _) _))
        clear hb ho hb2 hr hnx
        go_wp2_with fail
        go_roundg (21 - (k + 1))
        case measure => omega
        case rel => exact ⟨k + 1, by omega, by omega, by go_num, Lib.hid ⟨H3.out, HNX.out⟩⟩
      | some x =>
        have hbt : b = true := by rw [hb, hr]; rfl
        obtain ⟨rfl, rfl⟩ := ho x hr
        subst hbt
        have hcan := fun W hW => Tp.can k s.d s.n s.m s.i W hW
        have hI2 := HH.out.1.below hb2
        have hnx : ¬ (ThRef.canB k s.d s.n s.m s.i = true ∧ showL k s = l) → ∀ (j : Nat) (t : Nm), j < k + 1 → Okk j t → showL j t ≠ l := fun hno j t hj hok he => by
          by_cases hjk : j = k
          · subst hjk
            have h := rd_show hok
            rw [he, hr] at h
            obtain rfl := Option.some.inj h
            exact hno ⟨(okk_of j hok.hk _ _ _ _).2 hok, he⟩
          · exact HH.out.2 j t (by omega) hok he
        have q0 : ∀ i, (W2.alloc (.cells #[.int .i64 k, .int .i64 s.d, .int .i64 s.n, .int .i64 s.m, .int .i64 s.i] 50)).cell? ⟨W2.heap.size, i, none⟩ = (#[.int .i64 k, .int .i64 s.d, .int .i64 s.n, .int .i64 s.m, .int .i64 s.i] : Array Value)[i]? := fun i => World.cell?_alloc_at _ _ _ _ rfl
        have H3 := Lib.hid (hI2.below (w' := W2.alloc (.cells #[.int .i64 k, .int .i64 s.d, .int .i64 s.n, .int .i64 s.m, .int .i64 s.i] 50)) ((Below.refl _ _).alloc (Nat.le_refl _) _))
        have hz3 : W2.heap.size < (W2.alloc (.cells #[.int .i64 k, .int .i64 s.d, .int .i64 s.n, .int .i64 s.m, .int .i64 s.i] 50)).heap.size := by simp
        have HNX := Lib.hid hnx
        clear hb ho hb2 hr hnx hI2
        go_wp2_with fail
        generalize W2.alloc (.cells #[.int .i64 k, .int .i64 s.d, .int .i64 s.n, .int .i64 s.m, .int .i64 s.i] 50) = W3 at *
        generalize W2.heap.size = tb at *
        by_cases hc : ThRef.canB k s.d s.n s.m s.i = true
        · rw [hc] at hcan
          have hok := (okk_of k hlt _ _ _ _).1 hc
          have hwr := fun W hW => writeC (shpN k) s k (okk_wok hok) (asc_shp ⟨k, hlt⟩).2 W hW
          refine (hcan _ (HLW.out _ H3.out.low).tb).mono ?_
          rintro e W4 ⟨rfl, hb4⟩
          have z0 := (hb4.cell (p := ⟨tb, 0, none⟩) hz3).trans (q0 0); have z1 := (hb4.cell (p := ⟨tb, 1, none⟩) hz3).trans (q0 1); have z2 := (hb4.cell (p := ⟨tb, 2, none⟩) hz3).trans (q0 2); have z3 := (hb4.cell (p := ⟨tb, 3, none⟩) hz3).trans (q0 3); have z4 := (hb4.cell (p := ⟨tb, 4, none⟩) hz3).trans (q0 4)
          simp only [List.getElem?_toArray, List.getElem?_cons_zero, List.getElem?_cons_succ] at z0 z1 z2 z3 z4
          have hz4 : tb < W4.heap.size := Nat.lt_of_lt_of_le hz3 hb4.size
          have H4 := Lib.hid (H3.out.below hb4); have HOK := Lib.hid hok; have HW := Lib.hid hwr; have HCB := Lib.hid hc
          clear q0 hz3 hb4 hcan hok hwr hc H3
          go_wp2_with fail
          refine (HW.out _ (HLW.out _ H4.out.low)).mono ?_
          rintro e W5 ⟨rfl, hb5⟩
          have y0 := (hb5.cell (p := ⟨tb, 0, none⟩) hz4).trans z0; have y1 := (hb5.cell (p := ⟨tb, 1, none⟩) hz4).trans z1; have y2 := (hb5.cell (p := ⟨tb, 2, none⟩) hz4).trans z2; have y3 := (hb5.cell (p := ⟨tb, 3, none⟩) hz4).trans z3; have y4 := (hb5.cell (p := ⟨tb, 4, none⟩) hz4).trans z4
          have H5 := Lib.hid (H4.out.below hb5)
          clear z0 z1 z2 z3 z4 hz4 hb5 H4
          have hsh : showL k s = Tx.wr (shpN k) s := rfl
          by_cases heq : showL k s = l
          · have e1 : (Tx.wr (shpN k) s == l) = true := by rw [← hsh, heq]; simp
            have HEQ := Lib.hid heq; have HSH := Lib.hid hsh
            clear heq hsh
            generalize Tx.wr (shpN k) s = OUT at *
            have HE := Lib.hid (blk5 H5.out.res (.int .i64 k) (.int .i64 s.d) (.int .i64 s.n) (.int .i64 s.m) (.int .i64 s.i))
            have r0 := H5.out.res.cell 0; have r1 := H5.out.res.cell 1; have r2 := H5.out.res.cell 2; have r3 := H5.out.res.cell 3; have r4 := H5.out.res.cell 4
            have f0 := H5.out.res.frozen 0; have f1 := H5.out.res.frozen 1; have f2 := H5.out.res.frozen 2; have f3 := H5.out.res.frozen 3; have f4 := H5.out.res.frozen 4
            simp only [List.getElem?_toArray, List.getElem?_cons_zero, List.getElem?_cons_succ] at r0 r1 r2 r3 r4
            go_wp2_with fail
            have hlo : Below n0 w (((((W5.setCell ⟨n0, 0, none⟩ (.int .i64 k)).setCell ⟨n0, 1, none⟩ (.int .i64 s.d)).setCell ⟨n0, 2, none⟩ (.int .i64 s.n)).setCell ⟨n0, 3, none⟩ (.int .i64 s.m)).setCell ⟨n0, 4, none⟩ (.int .i64 s.i)) := (((((H5.out.low.setCell (p := ⟨n0, 0, none⟩) (Nat.le_refl _) _).setCell (p := ⟨n0, 1, none⟩) (Nat.le_refl _) _).setCell (p := ⟨n0, 2, none⟩) (Nat.le_refl _) _).setCell (p := ⟨n0, 3, none⟩) (Nat.le_refl _) _).setCell (p := ⟨n0, 4, none⟩) (Nat.le_refl _) _)
            have hE := HE.out
            clear r0 r1 r2 r3 r4 f0 f1 f2 f3 f4 HE
            generalize (((((W5.setCell ⟨n0, 0, none⟩ (.int .i64 k)).setCell ⟨n0, 1, none⟩ (.int .i64 s.d)).setCell ⟨n0, 2, none⟩ (.int .i64 s.n)).setCell ⟨n0, 3, none⟩ (.int .i64 s.m)).setCell ⟨n0, 4, none⟩ (.int .i64 s.i)) = W6 at *
            have s0 := hE.cell 0; have s1 := hE.cell 1; have s2 := hE.cell 2; have s3 := hE.cell 3; have s4 := hE.cell 4
            simp only [List.getElem?_toArray, List.getElem?_cons_zero, List.getElem?_cons_succ] at s0 s1 s2 s3 s4
            exact bodyPost_ret (v := .tuple #[.agg #[.int .i64 k, .int .i64 s.d, .int .i64 s.n, .int .i64 s.m, .int .i64 s.i], .int .i64 0]) (by simp [results, Tryz.results17, go_sem, s0, s1, s2, s3, s4]) rfl (HY.out k s W6 HOK.out HEQ.out hlo)
          · have e1 : (Tx.wr (shpN k) s == l) = false := by rw [← hsh]; simpa using heq
            have HEQ := Lib.hid heq
            clear heq hsh
            generalize Tx.wr (shpN k) s = OUT at *
            go_wp2_with fail
            go_roundg (21 - (k + 1))
            case measure => omega
            case rel => exact ⟨k + 1, by omega, by omega, by go_num, Lib.hid ⟨H5.out, HNX.out fun hh => HEQ.out hh.2⟩⟩
        · have hc2 : ThRef.canB k s.d s.n s.m s.i = false := by simpa using hc
          rw [hc2] at hcan
          refine (hcan _ (HLW.out _ H3.out.low).tb).mono ?_
          rintro e W4 ⟨rfl, hb4⟩
          have H4 := Lib.hid (H3.out.below hb4); have HC2 := Lib.hid hc
          clear q0 hz3 hb4 hcan hc hc2 H3
          go_wp2_with fail
          go_roundg (21 - (k + 1))
          case measure => omega
          case rel => exact ⟨k + 1, by omega, by omega, by go_num, Lib.hid ⟨H4.out, HNX.out fun hh => HC2.out hh.1⟩⟩
    · obtain rfl : k = 21 := by omega
      have hall : ∀ (j : Nat) (s : Nm), Okk j s → showL j s ≠ l := fun j s hok => HH.out.2 j s hok.hk hok
      have HA := Lib.hid hall
      clear hall
      have HE := Lib.hid (blk5 HH.out.1.res (.int .i64 0) (.int .i64 0) (.int .i64 0) (.int .i64 0) (.int .i64 0))
      have r0 := HH.out.1.res.cell 0; have r1 := HH.out.1.res.cell 1; have r2 := HH.out.1.res.cell 2; have r3 := HH.out.1.res.cell 3; have r4 := HH.out.1.res.cell 4
      have f0 := HH.out.1.res.frozen 0; have f1 := HH.out.1.res.frozen 1; have f2 := HH.out.1.res.frozen 2; have f3 := HH.out.1.res.frozen 3; have f4 := HH.out.1.res.frozen 4
      simp only [List.getElem?_toArray, List.getElem?_cons_zero, List.getElem?_cons_succ] at r0 r1 r2 r3 r4
      go_wp2_with fail
      have hlo : Below n0 w (((((wr.setCell ⟨n0, 0, none⟩ (.int .i64 0)).setCell ⟨n0, 1, none⟩ (.int .i64 0)).setCell ⟨n0, 2, none⟩ (.int .i64 0)).setCell ⟨n0, 3, none⟩ (.int .i64 0)).setCell ⟨n0, 4, none⟩ (.int .i64 0)) := (((((HH.out.1.low.setCell (p := ⟨n0, 0, none⟩) (Nat.le_refl _) _).setCell (p := ⟨n0, 1, none⟩) (Nat.le_refl _) _).setCell (p := ⟨n0, 2, none⟩) (Nat.le_refl _) _).setCell (p := ⟨n0, 3, none⟩) (Nat.le_refl _) _).setCell (p := ⟨n0, 4, none⟩) (Nat.le_refl _) _)
      have hE := HE.out
      clear r0 r1 r2 r3 r4 f0 f1 f2 f3 f4 HE
      generalize (((((wr.setCell ⟨n0, 0, none⟩ (.int .i64 0)).setCell ⟨n0, 1, none⟩ (.int .i64 0)).setCell ⟨n0, 2, none⟩ (.int .i64 0)).setCell ⟨n0, 3, none⟩ (.int .i64 0)).setCell ⟨n0, 4, none⟩ (.int .i64 0)) = W6 at *
      have s0 := hE.cell 0; have s1 := hE.cell 1; have s2 := hE.cell 2; have s3 := hE.cell 3; have s4 := hE.cell 4
      simp only [List.getElem?_toArray, List.getElem?_cons_zero, List.getElem?_cons_succ] at s0 s1 s2 s3 s4
      exact bodyPost_ret (v := .tuple #[.agg #[.int .i64 0, .int .i64 0, .int .i64 0, .int .i64 0, .int .i64 0], .int .i64 4]) (by simp [results, Tryz.results17, go_sem, s0, s1, s2, s3, s4]) rfl (HN.out W6 HA.out hlo)
end Go.Proofs.YtnngnfajmncjpaaGreatDoor.Tx
