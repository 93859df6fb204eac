/- DERIVED. The contracts of the program's Put. By an AI agent. -/
import Derived.Test.YtgcmbleinobneaaIpNum
namespace Go.Proofs.Ytgcmbleinobneaa.Ip
open Go.ChangeShapes Go.WideShapes Go.ChangeAt Go.RowKit Args ImRef
set_option linter.unusedVariables false
theorem full_new' {base : Nat} (W : World) (hB : base ≤ W.heap.size) (ys : List Int) (fr : Nat × Nat) : FullB base (W.alloc (.cells (bvals ys).toArray 5 fr)) (some ⟨W.heap.size, 0, none⟩) ys.length ys.length ys :=
  ⟨rfl, rfl, W.heap.size, rfl, hB, by simp, fun j u hj => by
    show (W.alloc _).cell? _ = _
    rw [World.cell?_alloc_mark]; simpa using hj⟩
theorem grow_new' {base : Nat} (W : World) (hB : base ≤ W.heap.size) (o : Obj) : Grow base W (W.alloc o) := ⟨by simp, fun B' w0 hB' hb => hb.alloc (by omega) _, Others.alloc (fun _ _ _ _ _ h => h) _⟩
theorem full_alloc {base : Nat} {w : World} {A : Option Addr} {c l : Nat} {xs : List Int} (h : FullB base w A c l xs) (o : Obj) : FullB base (w.alloc o) A c l xs := by
  obtain ⟨e1, e2, g, e3, hb, hg, hc⟩ := h
  exact ⟨e1, e2, g, e3, hb, by simp; omega, fun j u hj => (World.cell?_alloc_lt w o ⟨g, j, none⟩ hg).trans (hc j u hj)⟩
def fives (m : Man) (n : Nat) : List Int := [m.o, m.s, m.r, m.w, (n : Int)]
def fiveV (m : Man) (n : Nat) : Array Value := #[.int .i64 m.o, .int .i64 m.s, .int .i64 m.r, .int .i64 m.w, .int .i64 (n : Int)]
def manV (m : Man) (A4 A5 A6 : Option Addr) (c4 c5 c6 : Nat) : Array Value := #[.int .i64 m.o, .int .i64 m.s, .int .i64 m.r, .int .i64 m.w, .slice A4 m.se.length c4, .slice A5 m.pu.length c5, .slice A6 m.ou.length c6]
theorem fiveV_at (m : Man) (n k : Nat) (v : Int) (h : (fives m n)[k]? = some v) : (fiveV m n)[k]? = some (.int .i64 v) := by
  match k, h with
  | 0, h => simp [fives] at h; subst h; rfl
  | 1, h => simp [fives] at h; subst h; rfl
  | 2, h => simp [fives] at h; subst h; rfl
  | 3, h => simp [fives] at h; subst h; rfl
  | 4, h => simp [fives] at h; subst h; rfl
  | k + 5, h => simp [fives] at h
theorem fives_le (m : Man) (n : Nat) (hm : canM m = true) (hn : n ≤ 60000) (k : Nat) (v : Int) (h : (fives m n)[k]? = some v) : 0 ≤ v ∧ v ≤ 2147483647 := by
  obtain ⟨a, b, c, d, _⟩ := nums_of m hm
  match k, h with
  | 0, h => simp [fives] at h; subst h; omega
  | 1, h => simp [fives] at h; subst h; omega
  | 2, h => simp [fives] at h; subst h; omega
  | 3, h => simp [fives] at h; subst h; omega
  | 4, h => simp [fives] at h; subst h; omega
  | k + 5, h => simp [fives] at h
def headP (m : Man) (n k : Nat) : List Int := msk1 ++ ((fives m n).take k).flatMap (fourT 4)
theorem headP_succ (m : Man) (n k : Nat) (v : Int) (h : (fives m n)[k]? = some v) : headP m n (k + 1) = headP m n k ++ fourT 4 v := by
  obtain ⟨hk, rfl⟩ := List.getElem?_eq_some_iff.1 h
  unfold headP
  rw [List.take_succ_eq_append_getElem hk, List.flatMap_append]
  simp
theorem headP_len (m : Man) (n k : Nat) : (headP m n k).length ≤ 24 := by
  have : ∀ l : List Int, (l.flatMap (fourT 4)).length = 4 * l.length := fun l => by
    induction l with
    | nil => rfl
    | cons a l ih => rw [List.flatMap_cons, List.length_append, ih, four_len, List.length_cons]; omega
  unfold headP
  rw [List.length_append, this, List.length_take]
  have : (fives m n).length = 5 := rfl
  have : msk1.length = 4 := rfl
  omega
theorem headP_all (m : Man) (n : Nat) : headP m n 5 = headL m n := by simp [headP, headL, fives]
theorem fourT_two (z : Int) (h0 : 0 ≤ z) (h : z ≤ 65535) : fourT (2 : Int).toNat z = [z % 256, z / 256] := by
  show fourT 2 z = _
  simp [fourT, List.range_succ]; omega
def listsL (L : List Lst) : List Int := L.flatMap fun x => listL x.l
theorem lists_all (m : Man) (A4 A5 A6 : Option Addr) (c4 c5 c6 : Nat) (xs : List Int) : xs ++ listsL (lsts m A4 A5 A6 c4 c5 c6) = xs ++ listL m.se ++ listL m.pu ++ listL m.ou := by simp [listsL, lsts]
def lstV (m : Man) (A4 A5 A6 : Option Addr) (c4 c5 c6 : Nat) : Array Value := #[.slice A4 m.se.length c4, .slice A5 m.pu.length c5, .slice A6 m.ou.length c6]
theorem lstV_at (m : Man) (A4 A5 A6 : Option Addr) (c4 c5 c6 : Nat) : ∀ (k : Nat) (x : Lst), (lsts m A4 A5 A6 c4 c5 c6)[k]? = some x → (lstV m A4 A5 A6 c4 c5 c6)[k]? = some x.v := at3 (P := fun k (x : Lst) => (lstV m A4 A5 A6 c4 c5 c6)[k]? = some x.v) rfl rfl rfl
theorem lists_succ (L : List Lst) (k : Nat) (x : Lst) (h : L[k]? = some x) : listsL (L.take (k + 1)) = listsL (L.take k) ++ listL x.l := by
  obtain ⟨hk, rfl⟩ := List.getElem?_eq_some_iff.1 h
  unfold listsL
  rw [List.take_succ_eq_append_getElem hk, List.flatMap_append]
  simp
theorem lists_len (L : List Lst) (h : ∀ x ∈ L, cellsB x.l = true) : (listsL L).length ≤ 10000 * L.length := by
  induction L with
  | nil => simp [listsL]
  | cons x L ih =>
    have h1 := ih fun y hy => h y (List.mem_cons_of_mem _ hy)
    have h2 := list_len x.l (h x List.mem_cons_self)
    unfold listsL at h1 ⊢
    rw [List.flatMap_cons, List.length_append, List.length_cons]; omega
set_option maxHeartbeats 1000000 in
theorem put_arg (A0 : Option Addr) (n cap : Nat) (m : Man) (A4 A5 A6 : Option Addr) (c4 c5 c6 : Nat) (w : World) (h4 : Cs w A4 m.se) (h5 : Cs w A5 m.pu) (h6 : Cs w A6 m.ou) (hc : canM m = false) :
    Calls Try.prog 10 #[.slice A0 n cap, man m A4 A5 A6 c4 c5 c6] w fun e w' => e = .returned (.tuple #[.slice none 0 0, .int .i64 1]) ∧ Below w.heap.size w w' := by
  have hcan := fun W h4 h5 h6 => can m A4 A5 A6 c4 c5 c6 W h4 h5 h6
  rw [hc] at hcan
  have HCAN := Lib.hid hcan; have H4 := Lib.hid h4; have H5 := Lib.hid h5; have H6 := Lib.hid h6
  clear hcan h4 h5 h6 hc
  go_enter Try.func10, Try.ntmps10
  go_wp2_with fail
  have hb0 : ∀ o, Below w.heap.size w (w.alloc o) := fun o => (Below.refl _ _).alloc (Nat.le_refl _) _
  refine (HCAN.out _ (H4.out.below (hb0 _)) (H5.out.below (hb0 _)) (H6.out.below (hb0 _))).mono ?_
  rintro e wa ⟨rfl, hb1⟩
  have HBW := Lib.hid ((hb0 _).trans (hb1.mono (by simp)))
  clear hb0 hb1
  go_wp2_with fail
  go_ret2
  exact ⟨rfl, HBW.out⟩
set_option maxHeartbeats 1000000 in
theorem put_long (A0 : Option Addr) (n cap : Nat) (m : Man) (A4 A5 A6 : Option Addr) (c4 c5 c6 : Nat) (w : World) (h4 : Cs w A4 m.se) (h5 : Cs w A5 m.pu) (h6 : Cs w A6 m.ou) (hc : canM m = true) (hl : 60000 < n) :
    Calls Try.prog 10 #[.slice A0 n cap, man m A4 A5 A6 c4 c5 c6] w fun e w' => e = .returned (.tuple #[.slice none 0 0, .int .i64 2]) ∧ Below w.heap.size w w' := by
  have hcan := fun W h4 h5 h6 => can m A4 A5 A6 c4 c5 c6 W h4 h5 h6
  rw [hc] at hcan
  have HCAN := Lib.hid hcan; have H4 := Lib.hid h4; have H5 := Lib.hid h5; have H6 := Lib.hid h6
  clear hcan h4 h5 h6 hc
  go_enter Try.func10, Try.ntmps10
  go_wp2_with fail
  have hb0 : ∀ o, Below w.heap.size w (w.alloc o) := fun o => (Below.refl _ _).alloc (Nat.le_refl _) _
  refine (HCAN.out _ (H4.out.below (hb0 _)) (H5.out.below (hb0 _)) (H6.out.below (hb0 _))).mono ?_
  rintro e wa ⟨rfl, hb1⟩
  have HBW := Lib.hid ((hb0 _).trans (hb1.mono (by simp)))
  clear hb0 hb1
  go_wp2_with fail
  go_ret2
  exact ⟨rfl, HBW.out⟩
set_option maxRecDepth 100000 in
set_option maxHeartbeats 8000000 in
theorem put (A0 : Option Addr) (cap : Nat) (zs : List Int) (m : Man) (A4 A5 A6 : Option Addr) (c4 c5 c6 : Nat) (w : World) (hz : Lies w A0 (zs.map (.int .u16))) (hzb : ∀ z ∈ zs, 0 ≤ z ∧ z ≤ 65535) (h4 : Cs w A4 m.se) (h5 : Cs w A5 m.pu) (h6 : Cs w A6 m.ou)
    (hc : canM m = true) (hl : zs.length ≤ 60000) :
    Calls Try.prog 10 #[.slice A0 zs.length cap, man m A4 A5 A6 c4 c5 c6] w fun e w' => ∃ A' c' l', e = .returned (.tuple #[.slice A' l' c', .int .i64 0]) ∧ OwnB (w.heap.size + 1) w' A' c' l' (putL zs m) ∧ Below w.heap.size w w' := by
  have hcan := fun W h4 h5 h6 => can m A4 A5 A6 c4 c5 c6 W h4 h5 h6
  rw [hc] at hcan
  obtain ⟨_, _, _, _, k4, k5, k6⟩ := nums_of m hc
  have hcs : ∀ j (x : Lst), (lsts m A4 A5 A6 c4 c5 c6)[j]? = some x → Cs w x.A x.l := at3 (P := fun _ (x : Lst) => Cs w x.A x.l) h4 h5 h6
  have hcb : ∀ j (x : Lst), (lsts m A4 A5 A6 c4 c5 c6)[j]? = some x → cellsB x.l = true := at3 (P := fun _ (x : Lst) => cellsB x.l = true) k4 k5 k6
  have HCS := Lib.hid hcs; have HCB := Lib.hid hcb
  have HCAN := Lib.hid hcan; have HZ := Lib.hid hz; have HZB := Lib.hid hzb; have H4 := Lib.hid h4; have H5 := Lib.hid h5; have H6 := Lib.hid h6
  have HFV := Lib.hid (fives_le m zs.length hc hl)
  clear hcan hz hzb h4 h5 h6 hc k4 k5 k6 hcs hcb
  have hl60 : decide (60000 < (zs.length : Int)) = false := decide_eq_false (by omega)
  have kc : ∀ (W : World) (C : Array Value) (n c : Nat), (Go.convert 28 28 (.slice (some ⟨W.heap.size, 0, none⟩) n c)).run Try.prog (W.alloc (.cells C 5)) = .ok (.slice (some ⟨W.heap.size, 0, none⟩) n c) (W.alloc (.cells C 5 (C.size, C.size + 1))) := fun W C n c => Lib.run_convert_bytes_const (P := Try.prog) W 28 5 C n c Try.underlying28 Try.underlying5
  go_enter Try.func10, Try.ntmps10
  go_wp2_with fail
  have hb0 : ∀ o, Below w.heap.size w (w.alloc o) := fun o => (Below.refl _ _).alloc (Nat.le_refl _) _
  refine (HCAN.out _ (H4.out.below (hb0 _)) (H5.out.below (hb0 _)) (H6.out.below (hb0 _))).mono ?_
  rintro e wa ⟨rfl, hb1⟩
  have hcell : ∀ i, wa.cell? ⟨w.heap.size, i, none⟩ = _ := fun i => (hb1.cell (p := ⟨w.heap.size, i, none⟩) (by simp)).trans (World.cell?_alloc_at _ _ _ _ rfl)
  have q0 : wa.cell? ⟨w.heap.size, 0, none⟩ = some (.int .i64 m.o) := hcell 0
  have q1 : wa.cell? ⟨w.heap.size, 1, none⟩ = some (.int .i64 m.s) := hcell 1
  have q2 : wa.cell? ⟨w.heap.size, 2, none⟩ = some (.int .i64 m.r) := hcell 2
  have q3 : wa.cell? ⟨w.heap.size, 3, none⟩ = some (.int .i64 m.w) := hcell 3
  have HQ := Lib.hid (And.intro (hcell 4) (And.intro (hcell 5) (hcell 6)))
  have hz1 : w.heap.size + 1 ≤ wa.heap.size := by have := hb1.size; simp at this; exact this
  have hz2 : w.heap.size < wa.heap.size := by omega
  have HBW := Lib.hid ((hb0 _).trans (hb1.mono (by simp)))
  have OWN0 := Lib.hid (full_new' wa hz1 msk1 (4, 5))
  have G0 := Lib.hid ((grow_new' wa hz1 (.cells (bvals msk1).toArray 5 (4, 5))).trans (grow_new' _ (by simp; omega) (.cells (fiveV m zs.length) 3)))
  have F0 := Lib.hid (heap_alloc_new (wa.alloc (.cells (bvals msk1).toArray 5 (4, 5))) (.cells (fiveV m zs.length) 3))
  clear hb0 hb1 hcell
  go_wp2_with fail
  go_loopw [6, 33] (fun vb vi wr => ∃ (k : Nat) (A' : Option Addr) (c' l' : Nat), k ≤ 5 ∧ vb = .slice A' l' c' ∧ vi = .int .i64 k ∧ Hid (RowB (w.heap.size + 1) wr A' c' l' (headP m zs.length k) ∧ Grow (w.heap.size + 1) wa wr ∧ wr.heap[wa.heap.size + 1]? = some (.cells (fiveV m zs.length) 3 (0, 0)) ∧ (0 < k → OwnB (w.heap.size + 1) wr A' c' l' (headP m zs.length k)))) (fun _ vi _ => 5 - (intOf vi).toNat)
  case atStart => exact ⟨0, _, _, _, by omega, rfl, rfl, Lib.hid ⟨.inr (full_alloc OWN0.out _), G0.out, by have := F0.out; rwa [World.size_alloc] at this, fun h => absurd h (by decide)⟩⟩
  case round =>
    obtain ⟨k, A', c', l', hk, rfl, rfl, HH⟩ := hrel
    by_cases hlt : k < 5
    · obtain ⟨v, hv⟩ : ∃ v, (fives m zs.length)[k]? = some v := ⟨_, List.getElem?_eq_getElem (show k < (fives m zs.length).length from hlt)⟩
      have hvv := HFV.out k v hv
      have hc : wr.cell? ⟨wa.heap.size + 1, k, none⟩ = some (.int .i64 v) := (cell_of_row wr _ k _ _ _ HH.out.2.2.1).trans (fiveV_at m _ k v hv)
      have HS := Lib.hid (headP_succ m zs.length k v hv)
      have hln := headP_len m zs.length k
      have HLN : Hid ((headP m zs.length k).length ≤ 100000000) := Lib.hid (by omega)
      have HBR := Lib.hid (Nat.le_trans hz1 HH.out.2.1.1)
      obtain ⟨v0, v1⟩ := hvv
      clear hv hln
      go_wp2_with fail
      refine (num_r (w.heap.size + 1) A' c' l' _ v 4 v0 (by omega) (by decide) (by decide) _ HBR.out HH.out.1 HLN.out).mono ?_
      rintro e w2 ⟨A2, c2, l2, rfl, h1, h2⟩
      rw [four4, ← HS.out] at h1
      have O2 := Lib.hid h1; have Y2 := Lib.hid h2
      clear h1 h2 hc
      go_wp2_with fail
      go_roundw
      case rel => exact ⟨k + 1, A2, c2, l2, by omega, rfl, by go_num, Lib.hid ⟨.inl O2.out, HH.out.2.1.trans Y2.out, Y2.out.3 _ _ _ _ (by decide) HH.out.2.2.1, fun _ => O2.out⟩⟩
      case measure => simp [intOf]; omega
    · have hge : 5 ≤ k := by omega
      have hx0 := HH.out.2.2.2 (by omega)
      rw [show k = 5 by omega, headP_all] at hx0
      have O0 := Lib.hid hx0; have Y0 := Lib.hid HH.out.2.1
      clear hx0 HH hlt
      go_wp2_with fail
      go_loopw [6, 43] (fun vo vi ws => ∃ (k : Nat) (A' : Option Addr) (c' l' : Nat), k ≤ zs.length ∧ vo = .slice A' l' c' ∧ vi = .int .i64 k ∧ Hid (OwnB (w.heap.size + 1) ws A' c' l' (headL m zs.length ++ codeL (zs.take k)) ∧ Grow (w.heap.size + 1) wa ws)) (fun _ vi _ => zs.length - (intOf vi).toNat)
      case atStart => exact ⟨0, A', c', l', by omega, rfl, rfl, Lib.hid ⟨by simpa [codeL] using O0.out, Y0.out⟩⟩
      case round =>
        rename World => ws
        obtain ⟨j, A1, c1, l1, hj, rfl, rfl, HH⟩ := hrel
        by_cases hlt : j < zs.length
        · have hc : zs[j]? = some (zs[j]'hlt) := List.getElem?_eq_getElem hlt
          have htk := List.take_succ_eq_append_getElem hlt
          have hzz := HZB.out _ (List.getElem_mem hlt)
          generalize zs[j]'hlt = z at hc htk hzz
          have f1 : (zs.map (Value.int .u16))[j]? = some (.int .u16 z) := by simp [hc]
          obtain ⟨b, o, rfl, hb, hcell⟩ := HZ.out.at_ f1
          have e1 : ws.cell? ⟨b, o + j, none⟩ = some (.int .u16 z) := (HH.out.2.cell (p := ⟨b, _, none⟩) (by show b < _; omega)).trans ((HBW.out.cell (p := ⟨b, _, none⟩) hb).trans (hcell _ _ f1))
          have HTK := Lib.hid htk
          clear hc htk f1 hcell
          obtain ⟨z0, z1⟩ := hzz
          have hlz : (headL m zs.length ++ codeL (zs.take j)).length ≤ 100000000 := by
            have := code_len (zs.take j)
            rw [List.length_append, this, List.length_take]; simp [headL, msk1, fourT]; omega
          have HLZ := Lib.hid hlz
          have HBR := Lib.hid (Nat.le_trans hz1 HH.out.2.1)
          have H2 := Lib.hid (fourT_two z z0 z1)
          clear hlz
          go_wp2_with fail
          refine (num_r (w.heap.size + 1) A1 c1 l1 _ z 2 z0 (by omega) (by decide) (by decide) _ HBR.out (.inl HH.out.1) HLZ.out).mono ?_
          rintro e w2 ⟨A2, c2, l2, rfl, h1, h2⟩
          rw [H2.out] at h1
          have O2 := Lib.hid h1; have Y2 := Lib.hid h2
          clear h1 h2 e1
          go_wp2_with fail
          go_roundw
          case rel =>
            have hf : headL m zs.length ++ codeL (zs.take (j + 1)) = headL m zs.length ++ codeL (zs.take j) ++ [z % 256, z / 256] := by
              rw [HTK.out, codeL, codeL, List.flatMap_append, List.append_assoc]; rfl
            exact ⟨j + 1, A2, c2, l2, by omega, rfl, by go_num, Lib.hid ⟨by rw [hf]; exact O2.out, HH.out.2.trans Y2.out⟩⟩
          case measure => simp [intOf]; omega
        · have hge2 : zs.length ≤ j := by omega
          have hdf : decide (j < zs.length) = false := decide_eq_false hlt
          have hx0 := HH.out.1
          rw [List.take_of_length_le hge2] at hx0
          have O1 := Lib.hid hx0
          have Y1 := Lib.hid HH.out.2
          have hQ := keep3 HQ.out fun i => HH.out.2.cell (p := ⟨w.heap.size, i, none⟩) (Nat.lt_succ_self _)
          obtain ⟨p4, p5, p6⟩ := hQ
          have hln0 : (headL m zs.length ++ codeL zs).length ≤ 200000 := by
            rw [List.length_append, code_len]; simp [headL, msk1, fourT]; omega
          have LN0 := Lib.hid hln0
          clear hx0 hln0 HH hlt
          go_wp2_with fail
          go_loopw [6, 60] (fun vo vi wt => ∃ (k : Nat) (A' : Option Addr) (c' l' : Nat), k ≤ 3 ∧ vo = .slice A' l' c' ∧ vi = .int .i64 k ∧ Hid (OwnB (w.heap.size + 1) wt A' c' l' (headL m zs.length ++ codeL zs ++ listsL ((lsts m A4 A5 A6 c4 c5 c6).take k)) ∧ Grow (w.heap.size + 1) wa wt ∧ wt.heap[ws.heap.size]? = some (.cells (lstV m A4 A5 A6 c4 c5 c6) 23 (0, 0)))) (fun _ vi _ => 3 - (intOf vi).toNat)
          case atStart =>
            exact ⟨0, A1, c1, l1, by omega, rfl, rfl, Lib.hid ⟨by simpa [listsL] using O1.out.alloc _, Y1.out.trans (grow_new' ws (Nat.le_trans hz1 Y1.out.1) _), heap_alloc_new ws (.cells (lstV m A4 A5 A6 c4 c5 c6) 23)⟩⟩
          case round =>
            rename World => wt
            obtain ⟨i, A2, c2, l2, hi, rfl, rfl, HH⟩ := hrel
            by_cases hlt : i < 3
            · obtain ⟨⟨xA, xc, xl⟩, hx⟩ : ∃ x, (lsts m A4 A5 A6 c4 c5 c6)[i]? = some x := ⟨_, List.getElem?_eq_getElem (show i < (lsts m A4 A5 A6 c4 c5 c6).length from hlt)⟩
              have hc : wt.cell? ⟨ws.heap.size, i, none⟩ = some (.slice xA xl.length xc) := (cell_of_row wt _ i _ _ _ HH.out.2.2).trans (lstV_at m A4 A5 A6 c4 c5 c6 i _ hx)
              have hcs : Cs w xA xl := HCS.out i _ hx
              have hcb : cellsB xl = true := HCB.out i _ hx
              have HSU := Lib.hid (lists_succ _ i _ hx)
              have hll := lists_len ((lsts m A4 A5 A6 c4 c5 c6).take i) fun y hy => by
                obtain ⟨q, hq⟩ := List.getElem?_of_mem (List.mem_of_mem_take hy)
                exact HCB.out q _ hq
              have hln : (headL m zs.length ++ codeL zs ++ listsL ((lsts m A4 A5 A6 c4 c5 c6).take i)).length ≤ 1000000 := by
                rw [List.length_append]
                have h1 := LN0.out
                have h2 : ((lsts m A4 A5 A6 c4 c5 c6).take i).length ≤ 3 := by rw [List.length_take]; omega
                omega
              have HLN := Lib.hid hln; have HCB1 := Lib.hid hcb
              have HBR := Lib.hid (Nat.le_trans hz1 HH.out.2.1.1)
              have HLI := Lib.hid (hcs.below (HH.out.2.1.2 w.heap.size w (Nat.le_succ _) HBW.out)).1
              have HLO := Lib.hid hcs.low
              clear hx hcs hcb hll hln
              go_wp2_with fail
              refine (cellsP (w.heap.size + 1) A2 c2 l2 _ xA xc xl _ HBR.out HH.out.1 HLN.out HLI.out HLO.out HCB1.out).mono ?_
              rintro e w2 ⟨A3, c3, l3, rfl, h1, h2⟩
              rw [List.append_assoc, ← HSU.out] at h1
              have O2 := Lib.hid h1; have Y2 := Lib.hid h2
              clear h1 h2 hc
              go_wp2_with fail
              go_roundw
              case rel => exact ⟨i + 1, A3, c3, l3, by omega, rfl, by go_num, Lib.hid ⟨O2.out, HH.out.2.1.trans Y2.out, Y2.out.3 _ _ _ _ (by decide) HH.out.2.2⟩⟩
              case measure => simp [intOf]; omega
            · have h3 : i = 3 := by omega
              have hx0 := HH.out.1
              rw [h3] at hx0
              have hx1 : OwnB (w.heap.size + 1) wt A2 c2 l2 (headL m zs.length ++ codeL zs ++ listsL (lsts m A4 A5 A6 c4 c5 c6)) := hx0
              rw [lists_all] at hx1
              have O2 := Lib.hid hx1
              have HB := Lib.hid (HH.out.2.1.2 w.heap.size w (Nat.le_succ _) HBW.out)
              have hge3 : 3 ≤ i := by omega
              clear hx0 hx1 h3 HH hlt
              go_wp2_with fail
              go_ret2
              exact ⟨_, _, _, rfl, O2.out, HB.out⟩
end Go.Proofs.Ytgcmbleinobneaa.Ip
