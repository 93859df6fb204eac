/- DERIVED. The contract of the program's Words. By an AI agent. -/
import Derived.Test.YtgcmbleinobneaaIpPiece
import Derived.Test.YtgcmbleinobneaaRound
namespace Go.Proofs.Ytgcmbleinobneaa.Ip
open Go.ChangeShapes Go.WideShapes Go.ChangeAt Go.RowKit Go.Shelf Args ImRef
set_option linter.unusedVariables false
attribute [local go_sem] Oper.semAt_some
/-- Piece j of a list. -/
def pcl (xs : List Int) (sz j : Nat) : List Int := (xs.drop (j * sz)).take sz
def pcn (xs : List Int) (sz j : Nat) : Int := numL (pcl xs sz j)
def wordsL (xs : List Int) : List Int := (List.range (cnt xs.length 2)).map (pcn xs 2)
theorem pcl_mem {xs : List Int} {sz j : Nat} {z : Int} (h : z ∈ pcl xs sz j) : z ∈ xs := List.mem_of_mem_drop (List.mem_of_mem_take h)
theorem pcl_len (xs : List Int) (sz j : Nat) : (pcl xs sz j).length = min sz (xs.length - j * sz) := by unfold pcl; rw [List.length_take, List.length_drop]
theorem lies_pc {w : World} {b o : Nat} {xs : List Int} (h : Lies w (some ⟨b, o, none⟩) (xs.map (.int .u8))) (sz j : Nat) : Lies w (some ⟨b, o + j * sz, none⟩) ((pcl xs sz j).map (.int .u8)) := fun i u hi => by
  refine ⟨_, rfl, ?_⟩
  rw [Args.add_plain]
  have h2 : (xs.map (Value.int .u8))[j * sz + i]? = some u := by
    rw [List.getElem?_map] at hi ⊢
    obtain ⟨z, hz, rfl⟩ := Option.map_eq_some_iff.1 hi
    have : xs[j * sz + i]? = some z := by
      unfold pcl at hz
      rw [List.getElem?_take] at hz
      split at hz
      · rw [List.getElem?_drop] at hz; exact hz
      · cases hz
    rw [this]; rfl
  obtain ⟨a, ha, hc⟩ := h _ _ h2
  cases ha
  rw [Args.add_plain] at hc
  rw [Nat.add_assoc]; exact hc
theorem number_pc (b o sz j : Nat) (xs : List Int) (w : World) (hR : Lies w (some ⟨b, o, none⟩) (xs.map (.int .u8))) (h4 : sz ≤ 4) (hx : ∀ z ∈ xs, 0 ≤ z ∧ z < 256) :
    Calls Try.prog 36 #[pc b o xs.length sz j] w fun e w' => e = .returned (.int .u32 (pcn xs sz j)) ∧ w = w' := by
  have := number (some ⟨b, o + j * sz, none⟩) (min sz (xs.length - j * sz)) (pcl xs sz j) w (lies_pc hR sz j) (by rw [pcl_len]; omega) (fun z hz => hx z (pcl_mem hz))
  rw [pcl_len] at this
  exact this
theorem pcn_bd (xs : List Int) (sz j : Nat) (h4 : sz ≤ 4) (hx : ∀ z ∈ xs, 0 ≤ z ∧ z < 256) : 0 ≤ pcn xs sz j ∧ pcn xs sz j < 256 ^ sz := by
  obtain ⟨h1, h2⟩ := numL_bd (pcl xs sz j) fun z hz => hx z (pcl_mem hz)
  refine ⟨h1, Int.lt_of_lt_of_le h2 ?_⟩
  have : (pcl xs sz j).length ≤ sz := by rw [pcl_len]; omega
  have e : ∀ d k : Nat, (256 : Int) ^ k ≤ 256 ^ (k + d) := fun d k => by
    induction d with
    | zero => exact Int.le_refl _
    | succ d ih => 
      rw [← Nat.add_assoc, Int.pow_succ]
      have : (0 : Int) ≤ 256 ^ (k + d) := Int.pow_nonneg (by decide)
      omega
  obtain ⟨d, hd⟩ := Nat.exists_eq_add_of_le this
  have h3 := e d (pcl xs sz j).length
  rw [← hd] at h3
  exact h3
theorem lies_addr {w : World} {A : Option Addr} {xs : List Int} (h : Lies w A (xs.map (.int .u8))) : ∃ b o, 0 < xs.length → A = some ⟨b, o, none⟩ := by
  cases xs with
  | nil => exact ⟨0, 0, fun h => absurd h (by simp)⟩
  | cons x r => obtain ⟨b, o, e, _⟩ := h.at_ (j := 0) (u := .int .u8 x) rfl; exact ⟨b, o, fun _ => e⟩
def wv (xs : List Int) (j : Nat) : Value := .int .u16 (pcn xs 2 j)
theorem infoH : (Try.prog.info? 44).map (fun i => (i.zero, i.size, i.bytes)) = some (some (.int .u16 0), 1, 2) := by kernel_rfl
set_option maxRecDepth 100000 in
set_option maxHeartbeats 4000000 in
theorem words (A : Option Addr) (cap : Nat) (xs : List Int) (w : World) (hL : Lies w A (xs.map (.int .u8))) (hx : ∀ z ∈ xs, 0 ≤ z ∧ z < 256) (hl : xs.length ≤ 140737488351232) (hc : xs.length ≤ cap) (hcm : cap ≤ maxLen) :
    Calls Try.prog 19 #[.slice A xs.length cap] w fun e w' => ∃ v, e = .returned v ∧ Sl w' v (cnt xs.length 2) ((wordsL xs).map (.int .u16)) ∧ Below w.heap.size w w' := by
  obtain ⟨i0, hi, hz0, hz1, hz2⟩ := info_parts infoH
  have HL := Lib.hid hL; have HX := Lib.hid hx
  have HI := Lib.hid hi; have HZ0 := Lib.hid hz0; have HZ1 := Lib.hid hz1; have HZ2 := Lib.hid hz2
  have hm : (xs.length : Int) / 2 + (xs.length : Int) % 2 = ((xs.length / 2 + xs.length % 2 : Nat) : Int) := by omega
  have HM := Lib.hid hm
  have hb : i0.bytes * (xs.length / 2 + xs.length % 2) ≤ 281474976710656 := by rw [hz2]; omega
  have HBY := Lib.hid hb
  clear hL hx hi hz0 hz1 hz2 hm hb
  refine (callsIn_wide (n := 3)).1 ?_
  refine callsIn_of_wp_marks Try.func19 rfl trivial ?_ rfl
  simp only [Try.ntmps19, List.size_toArray, List.length_cons, List.length_nil, Nat.reduceAdd, Nat.reduceSub, Array.replicate_succ, Array.replicate_zero, List.push_toArray, List.append_toArray, List.nil_append, List.cons_append]
  gi_wp2_with ((first
    | (gi_at_make; refine wpListIn_make_own _ rfl _ _ 22 rfl w.heap.size 44 i0 (.int .u16 0) 1 Try.underlying22 HI.out HZ0.out HZ1.out .i64 .i64 _ (xs.length / 2 + xs.length % 2) rfl rfl HM.out HBY.out (by unfold maxLen; omega) (Nat.le_refl _) ?_; intro w1 hown1 hgrow1; have HO1 := Lib.hid hown1; have HG1 := Lib.hid hgrow1; clear hown1 hgrow1)
    | (refine ⟨trivial, ?_⟩; gi_at_call 35; refine (pieces_in Fence.wide _ trivial rfl _ _ _ 2 _).mono ?_; rintro e w' ⟨rfl, rfl⟩)))
  obtain ⟨b, o, hA⟩ := lies_addr HL.out
  have HA := Lib.hid hA
  clear hA
  have bC := Boxed.new w1 22 (.slice (some ⟨w.heap.size, 0, none⟩) 0 (xs.length / 2 + xs.length % 2))
  have bB := Boxed.new (w1.alloc (.cells #[.slice (some ⟨w.heap.size, 0, none⟩) 0 (xs.length / 2 + xs.length % 2)] 22)) 28 (.slice A xs.length cap)
  have bS := Boxed.new ((w1.alloc (.cells #[.slice (some ⟨w.heap.size, 0, none⟩) 0 (xs.length / 2 + xs.length % 2)] 22)).alloc (.cells #[.slice A xs.length cap] 28)) 3 (.int .i64 2)
  rw [World.size_alloc] at bB
  rw [World.size_alloc, World.size_alloc] at bS
  have hw1 : Below w.heap.size w w1 := (Below.refl _ w).grown HG1.out (Nat.le_refl _) (fun k e => nomatch e)
  have hw4 : Below w.heap.size w (((w1.alloc (.cells #[.slice (some ⟨w.heap.size, 0, none⟩) 0 (xs.length / 2 + xs.length % 2)] 22)).alloc (.cells #[.slice A xs.length cap] 28)).alloc (.cells #[.int .i64 2] 3)) :=
    ((hw1.alloc hw1.size _).alloc (by simp; have := hw1.size; omega) _).alloc (by simp; have := hw1.size; omega) _
  refine wpIn_rangeFunc_ownG rfl (by decide) (gf := 40) (lb := #[.pointer (some ⟨w1.heap.size + 1, 0, none⟩), .pointer (some ⟨w1.heap.size + 1 + 1, 0, none⟩)]) rfl trivial (enters_of Try.func40 (by kernel_rfl) rfl)
    (pieces_stops Fence.wide 2 trivial rfl (by decide) (w1.heap.size + 1) (w1.heap.size + 1 + 1) b o xs.length cap 2 A (by decide) (by decide) HA.out hc (by unfold maxLen at hcm; omega) _ (by simp) (by simp) (bB.alloc _).cell bS.cell) kc_t (kc_b (by simp)) (Below.refl _ _) (fun _ => rfl)
    (fun (pre : List Nat) W => (∃ v, Boxed W w1.heap.size 22 v ∧ W.ownsRow w.heap.size 44 1 v pre.length (pre.map (wv xs)) ∧ True) ∧ Boxed W (w1.heap.size + 1 + 1) 3 (.int .i64 2) ∧ Below w.heap.size w W)
    (fun _ _ _ => False)
    (OwnFrom.and (Own.from (holdsRow_own w.heap.size w1.heap.size 22 44 1 (fun pre : List Nat => pre.length) (fun pre : List Nat => pre.map (wv xs)) (fun _ v => True)) _) (OwnFrom.and (Own.from (boxed_own _ _ _) _) (ownFrom_below (Nat.le_refl _) (by simp; have := hw1.size; omega))))
    (fun _ _ _ _ _ hs _ _ => hs)
    ⟨⟨_, (bC.alloc _).alloc _, ((HO1.out.alloc _).alloc _).alloc _, trivial⟩, bS, hw4⟩
    (fun x => { tmps := #[.slice A xs.length cap, undef, .slice none 0 0, .pointer (some ⟨w1.heap.size, 0, none⟩), pc b o xs.length 2 x, .slice A xs.length cap, .int .i64 xs.length, .int .i64 (xs.length / 2), .slice A xs.length cap,
        .int .i64 xs.length, .int .i64 (xs.length % 2), .int .i64 (xs.length / 2 + xs.length % 2), .slice (some ⟨w.heap.size, 0, none⟩) 0 (xs.length / 2 + xs.length % 2), .slice A xs.length cap,
        .func (.func 40) #[] #[.pointer (some ⟨w1.heap.size + 1, 0, none⟩), .pointer (some ⟨w1.heap.size + 1 + 1, 0, none⟩)], pc b o xs.length 2 x, undef, undef, undef, undef, undef, undef, undef], defers := [] }) ?assign ?body ?done ?stop
  case assign =>
    intro l x W K hK
    gi_wp2
    exact hK
  case body =>
    rintro l pre x W ⟨⟨v, hv, hrow, _⟩, hS, hB⟩ hlt
    have hL0 : 0 < xs.length := by have := (cnt_lt xs.length 2 0 (by decide)).1 (by omega); omega
    have hAe := HA.out hL0
    have hLW := HL.out.below hB
    rw [hAe] at hLW
    obtain ⟨p0, p1⟩ := pcn_bd xs 2 x (by decide) HX.out
    have hc1 := hv.cell
    have hmx : Try.prog.follows .mixedOrders = true := by kernel_rfl
    have hwr : IntKind.u16.wrap (pcn xs 2 x) = pcn xs 2 x := by rw [IntKind.wrap_u16]; omega
    have hc2 : (W.alloc (.cells #[.int .u16 (pcn xs 2 x)] 44)).cell? ⟨w1.heap.size, 0, none⟩ = some v := (hv.alloc _).cell
    have HROW := Lib.hid (show (W.alloc (.cells #[.int .u16 (pcn xs 2 x)] 44)).drew.ownsRow w.heap.size 44 1 v pre.length (pre.map (wv xs)) from (hrow.alloc _).drew)
    have HRW := Lib.hid (show W.drew.ownsRow w.heap.size 44 1 v pre.length (pre.map (wv xs)) from hrow.drew)
    have HV := Lib.hid (show Boxed W.drew w1.heap.size 22 v from hv)
    have HS := Lib.hid (show Boxed W.drew (w1.heap.size + 1 + 1) 3 (.int .i64 2) from hS)
    have HNEW := Lib.hid (show Lies (W.alloc (.cells #[.int .u16 (pcn xs 2 x)] 44)).drew (some ⟨W.heap.size, 0, none⟩) [.int .u16 (pcn xs 2 x)] from fun j u hj => ⟨_, rfl, by
      rw [Args.add_plain, Nat.zero_add]
      show (W.alloc _).cell? _ = _
      rw [World.cell?_alloc_at _ _ _ _ rfl]
      simpa using hj⟩)
    have hcn : pre.length + 1 ≤ maxLen ∧ (pre.length + 1) * 2 ≤ 140737488355328 := by unfold cnt at hlt; unfold maxLen; omega
    have HCN := Lib.hid hcn
    have HBS : Hid (w.heap.size ≤ (W.alloc (.cells #[.int .u16 (pcn xs 2 x)] 44)).drew.heap.size) := Lib.hid (by simp; have := hB.size; omega)
    have HB := Lib.hid (show Below w.heap.size w W.drew from hB.drew)
    have HLE := Lib.hid hw1.size
    have HNR := Lib.hid (hS.not_row (by decide) hrow)
    clear hrow hcn
    gi_wp2
    refine wpIn_region_any hmx (Rd.any_in (by kernel_rfl) (fun ⟨_, _, h⟩ => h) _ _ _ _ ?_)
    change wpAny _ _ _ _ _ _ _ (World.drew _)
    refine wpAny_take (i := 1) (v := ?_) rfl (by kernel_rfl) (by kernel_rfl) (by kernel_rfl) (fun _ _ _ h => h) (Or.inl ⟨by rfl, ?_⟩) ?_
    rotate_left
    · (intro w; go_simp; try with_reducible rfl)
    try simp only [Act.put, List.getElem_toArray, List.getElem_cons_succ, List.getElem_cons_zero, List.setIfInBounds_toArray, List.set_cons_zero, List.set_cons_succ]
    refine wpAny_ready (rs := [0, 2]) (by kernel_rfl) (by simp) (AllReady.cons rfl (fun K hK => ?_) (AllReady.cons rfl (fun K hK => ?_) AllReady.nil))
    · go_simp
      refine hK _ _ ?_
      clear hK K
      try simp only [Act.put, List.getElem_toArray, List.getElem_cons_succ, List.getElem_cons_zero, List.setIfInBounds_toArray, List.set_cons_zero, List.set_cons_succ]
      refine wpAny_ready (rs := [2]) (by kernel_rfl) (by simp) (AllReady.cons rfl (fun K hK => ?_) AllReady.nil)
      go_simp
      go_at_call 36; refine (number_pc b o 2 x xs _ (by exact hLW) (by decide) HX.out).mono ?_; rintro e w' ⟨rfl, rfl⟩
      go_wp2_with fail
      try simp only [Act.put, List.getElem_toArray, List.getElem_cons_succ, List.getElem_cons_zero, List.setIfInBounds_toArray, List.set_cons_zero, List.set_cons_succ]
      refine wpAny_take (i := 3) (v := ?_) rfl (by kernel_rfl) (by kernel_rfl) (by kernel_rfl) (fun _ _ _ h => h) (Or.inl ⟨by rfl, ?_⟩) ?_
      rotate_left
      · (intro w; go_simp; try with_reducible rfl)
      try simp only [Act.put, List.getElem_toArray, List.getElem_cons_succ, List.getElem_cons_zero, List.setIfInBounds_toArray, List.set_cons_zero, List.set_cons_succ]
      refine wpAny_ready (rs := [4]) (by kernel_rfl) (by simp) (AllReady.cons rfl (fun K hK => ?_) AllReady.nil)
      go_simp
      refine hK _ _ ?_
      clear hK K
      try simp only [Act.put, List.getElem_toArray, List.getElem_cons_succ, List.getElem_cons_zero, List.setIfInBounds_toArray, List.set_cons_zero, List.set_cons_succ]
      refine wpAny_ready (rs := [5]) (by kernel_rfl) (by simp) (AllReady.cons rfl (fun K hK => ?_) AllReady.nil)
      refine step_fresh rfl _ _ 22 rfl w.heap.size 44 i0 (.int .u16 0) 1 2 Try.underlying22 HI.out HZ0.out HZ1.out HZ2.out rfl (by decide) v pre.length (pre.map (wv xs)) rfl HROW.out (some ⟨W.heap.size, 0, none⟩) 1 1 [.int .u16 (pcn xs 2 x)] rfl rfl HNEW.out (by simp [Value.oneCell']) HCN.out.1 HCN.out.2 HBS.out ?_
      intro A2 c2 w2 h2 h3 h4 h5
      obtain ⟨k1, k2, k3, k4, k5⟩ := Boxed.appended (W := W.drew) (tmp := .cells #[.int .u16 (pcn xs 2 x)] 44) (B := w1.heap.size) (t := 22) HV.out (by decide) HRW.out HB.out.size HLE.out h4 h5
      have k6 := ((HS.out.alloc (.cells #[.int .u16 (pcn xs 2 x)] 44)).kept h5 HNR.out).other (B' := w1.heap.size) (by omega) (.slice A2 (pre.length + 1) c2)
      have kc1 := k1.cell; have kf1 := k1.frozen
      have K2 := Lib.hid k2; have K3 := Lib.hid k3; have K4 := Lib.hid k4; have K5 := Lib.hid k5; have K6 := Lib.hid k6
      clear h2 h3 h4 h5 k1 k2 k3 k4 k5 k6
      refine hK _ _ ?_
      clear hK K
      try simp only [Act.put, List.getElem_toArray, List.getElem_cons_succ, List.getElem_cons_zero, List.setIfInBounds_toArray, List.set_cons_zero, List.set_cons_succ]
      refine wpAny_ready (rs := [6]) (by kernel_rfl) (by simp) (AllReady.cons rfl (fun K hK => ?_) AllReady.nil)
      go_simp
      refine hK _ _ ?_
      clear hK K
      refine wpAny_done (by kernel_rfl) ?_ _
      exact ⟨K4.out.from _ |> fun h => ⟨h.size, h.same⟩, K6.out.cell.trans hS.cell.symm, ⟨_, K2.out, by simpa [wv] using K3.out, trivial⟩, K6.out, hB.trans ((Below.refl w.heap.size W).drew.trans K5.out)⟩
    · go_simp
      go_at_call 36; refine (number_pc b o 2 x xs _ (by exact hLW) (by decide) HX.out).mono ?_; rintro e w' ⟨rfl, rfl⟩
      go_wp2_with fail
      try simp only [Act.put, List.getElem_toArray, List.getElem_cons_succ, List.getElem_cons_zero, List.setIfInBounds_toArray, List.set_cons_zero, List.set_cons_succ]
      refine wpAny_take (i := 3) (v := ?_) rfl (by kernel_rfl) (by kernel_rfl) (by kernel_rfl) (fun _ _ _ h => h) (Or.inl ⟨by rfl, ?_⟩) ?_
      rotate_left
      · (intro w; go_simp; try with_reducible rfl)
      try simp only [Act.put, List.getElem_toArray, List.getElem_cons_succ, List.getElem_cons_zero, List.setIfInBounds_toArray, List.set_cons_zero, List.set_cons_succ]
      refine wpAny_ready (rs := [0, 4]) (by kernel_rfl) (by simp) (AllReady.cons rfl (fun K hK => ?_) (AllReady.cons rfl (fun K hK => ?_) AllReady.nil))
      · go_simp
        refine hK _ _ ?_
        clear hK K
        try simp only [Act.put, List.getElem_toArray, List.getElem_cons_succ, List.getElem_cons_zero, List.setIfInBounds_toArray, List.set_cons_zero, List.set_cons_succ]
        refine wpAny_ready (rs := [4]) (by kernel_rfl) (by simp) (AllReady.cons rfl (fun K hK => ?_) AllReady.nil)
        go_simp
        refine hK _ _ ?_
        clear hK K
        try simp only [Act.put, List.getElem_toArray, List.getElem_cons_succ, List.getElem_cons_zero, List.setIfInBounds_toArray, List.set_cons_zero, List.set_cons_succ]
        refine wpAny_ready (rs := [5]) (by kernel_rfl) (by simp) (AllReady.cons rfl (fun K hK => ?_) AllReady.nil)
        refine step_fresh rfl _ _ 22 rfl w.heap.size 44 i0 (.int .u16 0) 1 2 Try.underlying22 HI.out HZ0.out HZ1.out HZ2.out rfl (by decide) v pre.length (pre.map (wv xs)) rfl HROW.out (some ⟨W.heap.size, 0, none⟩) 1 1 [.int .u16 (pcn xs 2 x)] rfl rfl HNEW.out (by simp [Value.oneCell']) HCN.out.1 HCN.out.2 HBS.out ?_
        intro A2 c2 w2 h2 h3 h4 h5
        obtain ⟨k1, k2, k3, k4, k5⟩ := Boxed.appended (W := W.drew) (tmp := .cells #[.int .u16 (pcn xs 2 x)] 44) (B := w1.heap.size) (t := 22) HV.out (by decide) HRW.out HB.out.size HLE.out h4 h5
        have k6 := ((HS.out.alloc (.cells #[.int .u16 (pcn xs 2 x)] 44)).kept h5 HNR.out).other (B' := w1.heap.size) (by omega) (.slice A2 (pre.length + 1) c2)
        have kc1 := k1.cell; have kf1 := k1.frozen
        have K2 := Lib.hid k2; have K3 := Lib.hid k3; have K4 := Lib.hid k4; have K5 := Lib.hid k5; have K6 := Lib.hid k6
        clear h2 h3 h4 h5 k1 k2 k3 k4 k5 k6
        refine hK _ _ ?_
        clear hK K
        try simp only [Act.put, List.getElem_toArray, List.getElem_cons_succ, List.getElem_cons_zero, List.setIfInBounds_toArray, List.set_cons_zero, List.set_cons_succ]
        refine wpAny_ready (rs := [6]) (by kernel_rfl) (by simp) (AllReady.cons rfl (fun K hK => ?_) AllReady.nil)
        go_simp
        refine hK _ _ ?_
        clear hK K
        refine wpAny_done (by kernel_rfl) ?_ _
        exact ⟨K4.out.from _ |> fun h => ⟨h.size, h.same⟩, K6.out.cell.trans hS.cell.symm, ⟨_, K2.out, by simpa [wv] using K3.out, trivial⟩, K6.out, hB.trans ((Below.refl w.heap.size W).drew.trans K5.out)⟩
      · go_simp
        refine hK _ _ ?_
        clear hK K
        try simp only [Act.put, List.getElem_toArray, List.getElem_cons_succ, List.getElem_cons_zero, List.setIfInBounds_toArray, List.set_cons_zero, List.set_cons_succ]
        refine wpAny_ready (rs := [0]) (by kernel_rfl) (by simp) (AllReady.cons rfl (fun K hK => ?_) AllReady.nil)
        go_simp
        refine hK _ _ ?_
        clear hK K
        try simp only [Act.put, List.getElem_toArray, List.getElem_cons_succ, List.getElem_cons_zero, List.setIfInBounds_toArray, List.set_cons_zero, List.set_cons_succ]
        refine wpAny_ready (rs := [5]) (by kernel_rfl) (by simp) (AllReady.cons rfl (fun K hK => ?_) AllReady.nil)
        refine step_fresh rfl _ _ 22 rfl w.heap.size 44 i0 (.int .u16 0) 1 2 Try.underlying22 HI.out HZ0.out HZ1.out HZ2.out rfl (by decide) v pre.length (pre.map (wv xs)) rfl HROW.out (some ⟨W.heap.size, 0, none⟩) 1 1 [.int .u16 (pcn xs 2 x)] rfl rfl HNEW.out (by simp [Value.oneCell']) HCN.out.1 HCN.out.2 HBS.out ?_
        intro A2 c2 w2 h2 h3 h4 h5
        obtain ⟨k1, k2, k3, k4, k5⟩ := Boxed.appended (W := W.drew) (tmp := .cells #[.int .u16 (pcn xs 2 x)] 44) (B := w1.heap.size) (t := 22) HV.out (by decide) HRW.out HB.out.size HLE.out h4 h5
        have k6 := ((HS.out.alloc (.cells #[.int .u16 (pcn xs 2 x)] 44)).kept h5 HNR.out).other (B' := w1.heap.size) (by omega) (.slice A2 (pre.length + 1) c2)
        have kc1 := k1.cell; have kf1 := k1.frozen
        have K2 := Lib.hid k2; have K3 := Lib.hid k3; have K4 := Lib.hid k4; have K5 := Lib.hid k5; have K6 := Lib.hid k6
        clear h2 h3 h4 h5 k1 k2 k3 k4 k5 k6
        refine hK _ _ ?_
        clear hK K
        try simp only [Act.put, List.getElem_toArray, List.getElem_cons_succ, List.getElem_cons_zero, List.setIfInBounds_toArray, List.set_cons_zero, List.set_cons_succ]
        refine wpAny_ready (rs := [6]) (by kernel_rfl) (by simp) (AllReady.cons rfl (fun K hK => ?_) AllReady.nil)
        go_simp
        refine hK _ _ ?_
        clear hK K
        refine wpAny_done (by kernel_rfl) ?_ _
        exact ⟨K4.out.from _ |> fun h => ⟨h.size, h.same⟩, K6.out.cell.trans hS.cell.symm, ⟨_, K2.out, by simpa [wv] using K3.out, trivial⟩, K6.out, hB.trans ((Below.refl w.heap.size W).drew.trans K5.out)⟩
  case done =>
    rintro D ys W hD rfl ⟨⟨v, hv, hrow, _⟩, hS, hB⟩ hK
    have hc := hv.cell
    gi_wp2
    refine ⟨by simp, .inl ⟨_, _, rfl, run_takeDeferred hK, ?_⟩⟩
    refine ⟨_, results_tmp rfl _ _ _, v, rfl, ?_, hB.trans (belowK_b (w := w) (Nat.le_refl _) W D _ _ (by simp at hD; have := hw1.size; omega) hK rfl rfl)⟩
    have := sl_own (ownsRow_putObj hrow (.deferred none) hK rfl)
    rw [List.length_range] at this
    rw [show (wordsL xs).map (Value.int .u16) = (List.range (cnt xs.length 2)).map (wv xs) by unfold wordsL wv; rw [List.map_map]; rfl]
    exact this
  case stop =>
    rintro D c pre W _ _ h _
    exact h.elim
end Go.Proofs.Ytgcmbleinobneaa.Ip
