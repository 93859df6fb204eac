/- DERIVED. Contracts of the program's reader: numbers, where there are as many. By an AI agent. -/
import Derived.Test.YtgcmbleinobneaaIpNums
namespace Go.Proofs.Ytgcmbleinobneaa.Ip
open Go.ChangeShapes Go.WideShapes Go.ChangeAt Go.RowKit Go.Shelf Args ImRef
set_option linter.unusedVariables false
attribute [local go_sem] Oper.semAt_some
theorem cnt4 (k : Nat) : cnt (4 * k) 4 = k := by unfold cnt; omega
theorem ptrs_at (mB : Nat) (offs : List Nat) (j o : Nat) (h : offs[j]? = some o) : (ptrs mB offs)[j]? = some (.pointer (some ⟨mB, o, none⟩)) := by
  unfold ptrs; simp [h]
theorem keepS {w : World} {p1 p2 p3 q : Addr} {v1 v2 v3 u : Value} (h : w.cell? p1 = some v1 ∧ w.cell? p2 = some v2 ∧ w.cell? p3 = some v3) (h1 : q.block ≠ p1.block) (h2 : q.block ≠ p2.block) (h3 : q.block ≠ p3.block) :
    (w.setCell q u).cell? p1 = some v1 ∧ (w.setCell q u).cell? p2 = some v2 ∧ (w.setCell q u).cell? p3 = some v3 :=
  ⟨(World.cell?_setCell_other w q p1 u fun e => h1 (by rw [e])).trans h.1, (World.cell?_setCell_other w q p2 u fun e => h2 (by rw [e])).trans h.2.1, (World.cell?_setCell_other w q p3 u fun e => h3 (by rw [e])).trans h.2.2⟩
theorem blk_putObj {W : World} {g : Nat} {t : TypeId} {cs : Array Value} (h : Blk W g t cs) {D : Nat} {o : Obj} (o' : Obj) (hl : W.heap[D]? = some o) (ho : o.isCells = false) : Blk (W.putObj D o') g t cs :=
  ((grownBy_putObj' W D o').block g h.lt (fun e => by
    cases e
    rw [show W.heap[g]? = _ from h] at hl; cases hl; cases ho)).trans h
set_option maxRecDepth 100000 in
set_option maxHeartbeats 8000000 in
theorem numbers_yes (n₀ r mB tb : Nat) (ys : List Int) (offs : List Nat) (t : TypeId) (cs : Array Value) (w : World) (hR : Rdr n₀ w r ys 0) (h4 : offs.length ≤ 4) (hl : 4 * offs.length ≤ ys.length)
    (hM : Blk w mB t cs) (hT : Blk w tb 58 (ptrs mB offs)) (hoff : ∀ o ∈ offs, o < cs.size) (hmr : mB ≠ r) (hmt : mB ≠ tb) (htr : tb ≠ r) (hnm : n₀ ≤ mB) :
    Calls Try.prog 28 #[.pointer (some ⟨r, 0, none⟩), .slice (some ⟨tb, 0, none⟩) offs.length offs.length] w fun en w' => (∃ v, en = .returned v) ∧ Rdr n₀ w' r (ys.drop (4 * offs.length)) 0 ∧
      Blk w' mB t (setAll cs (numsV offs (ys.take (4 * offs.length)) (List.range offs.length))) ∧ Upd (fun g => g = r ∨ g = mB) w w' := by
  obtain ⟨k, hk⟩ : ∃ k, k = offs.length := ⟨_, rfl⟩
  rw [← hk] at h4 hl ⊢
  have HK := Lib.hid hk
  have hrl : r < w.heap.size := by obtain ⟨_, _, hb, _⟩ := hR; exact hb.lt
  have hml := hM.lt
  have htl := hT.lt
  have hn : n₀ ≤ r := by obtain ⟨_, _, _, _, hn⟩ := hR; exact hn
  have hu0 : ∀ X, Upd X w ((w.alloc (.cells #[.slice (some ⟨tb, 0, none⟩) k k] 77)).alloc (.cells #[.int .i64 0] 3)) := fun X => ((Upd.refl X w).alloc _).alloc _
  have hR1 := hR.upd (X := fun _ => False) (hu0 _) (fun _ h => h.elim) (fun h => h)
  have hc0 := cut_yes n₀ r ys (4 * (k : Int)) _ hR1 (by omega) (by omega)
  have hn4 : (4 * (k : Int)).toNat = 4 * k := by omega
  have hc := hc0.mono (R' := fun en w' => ∃ A', en = .returned (.slice A' (4 * k) (4 * k)) ∧ Pc n₀ w' A' (4 * k) (ys.take (4 * k)) ∧ Rdr n₀ w' r (ys.drop (4 * k)) 0 ∧ Upd (· = r) ((w.alloc (.cells #[.slice (some ⟨tb, 0, none⟩) k k] 77)).alloc (.cells #[.int .i64 0] 3)) w') (fun en w' h => by unfold CutYes at h; rw [hn4] at h; exact h)
  have HC := Lib.hid hc; have HU0 := Lib.hid hu0; have HOFF := Lib.hid hoff
  have bT := Boxed.new w 77 (.slice (some ⟨tb, 0, none⟩) k k)
  have bK := Boxed.new (w.alloc (.cells #[.slice (some ⟨tb, 0, none⟩) k k] 77)) 3 (.int .i64 0)
  rw [World.size_alloc] at bK
  have HM := Lib.hid (hM.upd (hu0 (fun _ => False)) (fun h => h)); have HT := Lib.hid (hT.upd (hu0 (fun _ => False)) (fun h => h))
  have HBT := Lib.hid (bT.alloc (.cells #[.int .i64 0] 3)); have HBK := Lib.hid bK
  have hrk : w.heap.size + 1 ≠ r := by omega
  clear hR hu0 hR1 hc hc0 hn4 hM hT bT bK hk hoff
  refine (callsIn_wide (n := 3)).1 ?_
  refine callsIn_of_wp_marks Try.func28 rfl trivial ?_ rfl
  simp only [Try.ntmps28, List.size_toArray, List.length_cons, List.length_nil, Nat.reduceAdd, Nat.reduceSub, Array.replicate_succ, Array.replicate_zero, List.push_toArray, List.append_toArray, List.nil_append, List.cons_append]
  gi_wp2_with ((first
    | (refine ⟨trivial, ?_⟩; gi_at_call 39; refine (callsIn_wide.2 HC.out).mono ?_; rintro en w2 ⟨A', rfl, h0, h1, h2⟩; have HP2 := Lib.hid h0; have HR2 := Lib.hid h1; have HU2 := Lib.hid h2; clear h0 h1 h2)
    | (refine ⟨trivial, ?_⟩; gi_at_call 35; refine (pieces_in Fence.wide _ trivial rfl _ _ _ 4 _).mono ?_; rintro e w' ⟨rfl, rfl⟩)))
  have hpl : (ys.take (4 * k)).length = 4 * k := by rw [List.length_take]; omega
  obtain ⟨b, o, hA⟩ : ∃ b o, 0 < 4 * k → A' = some ⟨b, o, none⟩ := by
    by_cases h : 0 < 4 * k
    · obtain ⟨b, o, e⟩ := HP2.out.addr (by rw [hpl]; exact h)
      exact ⟨b, o, fun _ => e⟩
    · exact ⟨0, 0, fun h' => absurd h' h⟩
  have HA := Lib.hid hA
  have hws := HU2.out.size
  simp only [World.size_alloc] at hws
  have bT2 : Boxed w2 w.heap.size 77 (.slice (some ⟨tb, 0, none⟩) k k) := (show Blk _ _ _ _ from HBT.out).upd HU2.out (by omega)
  have bK2 : Boxed w2 (w.heap.size + 1) 3 (.int .i64 0) := (show Blk _ _ _ _ from HBK.out).upd HU2.out (by omega)
  have hM2 := HM.out.upd HU2.out hmr
  have hT2 := HT.out.upd HU2.out htr
  have bB := Boxed.new w2 28 (.slice A' (4 * k) (4 * k))
  have bS := Boxed.new (w2.alloc (.cells #[.slice A' (4 * k) (4 * k)] 28)) 3 (.int .i64 4)
  rw [World.size_alloc] at bS
  clear hA
  refine wpIn_rangeFunc_ownG rfl (by decide) (gf := 40) (lb := #[.pointer (some ⟨w2.heap.size, 0, none⟩), .pointer (some ⟨w2.heap.size + 1, 0, none⟩)]) rfl trivial (enters_of Try.func40 (by kernel_rfl) rfl)
    (pieces_stops Fence.wide 2 trivial rfl (by decide) w2.heap.size (w2.heap.size + 1) b o (4 * k) (4 * k) 4 A' (by decide) (by decide) HA.out (Nat.le_refl _) (by omega) _ (by simp only [World.size_alloc]; omega) (by simp only [World.size_alloc]; omega) (bB.alloc _).cell bS.cell) kc_t (kc_b (by simp only [World.size_alloc]; omega)) (Below.refl _ _) (fun _ => rfl)
    (fun (pre : List Nat) W => Boxed W w.heap.size 77 (.slice (some ⟨tb, 0, none⟩) k k) ∧ Boxed W (w.heap.size + 1) 3 (.int .i64 pre.length) ∧ Boxed W (w2.heap.size + 1) 3 (.int .i64 4) ∧ Blk W tb 58 (ptrs mB offs) ∧ Blk W mB t (setAll cs (numsV offs (ys.take (4 * k)) pre)) ∧ Upd (fun g => g = mB ∨ g = w.heap.size + 1) w2 W)
    (fun _ _ _ => False)
    (OwnFrom.and (Own.from (boxed_own _ _ _) _) (OwnFrom.and (Own.from (boxed_own _ _ (fun pre : List Nat => Value.int .i64 pre.length)) _) (OwnFrom.and (Own.from (boxed_own _ _ _) _) (OwnFrom.and (Own.from (blk_own _ _ _) _) (OwnFrom.and (Own.from (blk_own mB t (fun pre : List Nat => setAll cs (numsV offs (ys.take (4 * k)) pre))) _) (upd_own (by simp only [World.size_alloc]; omega)))))))
    (fun _ _ _ _ _ hs _ _ => hs)
    ⟨(bT2.alloc _).alloc _, (bK2.alloc _).alloc _, bS, (hT2.alloc _).alloc _, by simpa [numsV, setAll] using (hM2.alloc _).alloc _, ((Upd.refl _ w2).alloc _).alloc _⟩
    (fun x => { tmps := #[.pointer (some ⟨r, 0, none⟩), .slice (some ⟨tb, 0, none⟩) k k, undef, .pointer (some ⟨w.heap.size, 0, none⟩), .pointer (some ⟨w.heap.size + 1, 0, none⟩), pc b o (4 * k) 4 x, .pointer (some ⟨r, 0, none⟩), .slice (some ⟨tb, 0, none⟩) k k, .int .i64 k, .int .i64 (4 * (k : Int)), .slice A' (4 * k) (4 * k),
        .func (.func 40) #[] #[.pointer (some ⟨w2.heap.size, 0, none⟩), .pointer (some ⟨w2.heap.size + 1, 0, none⟩)], pc b o (4 * k) 4 x, undef, undef, undef, undef, undef, undef, undef, undef, undef, undef], defers := [] }) ?assign ?body ?done ?stop
  case assign =>
    intro l x W K hK
    gi_wp2
    exact hK
  case body =>
    rintro l pre x W ⟨gT, gK, gS, gP, gM, gU⟩ hlt
    rw [cnt4] at hlt
    obtain ⟨f, hf⟩ : ∃ f, offs[pre.length]? = some f := ⟨_, List.getElem?_eq_getElem (by rw [← HK.out]; exact hlt)⟩
    have hfs := HOFF.out f (List.mem_of_getElem? hf)
    have hAe := HA.out (by omega)
    have c0 := gT.cell
    have c1 := gK.cell
    have c2 : W.cell? ⟨tb, pre.length, none⟩ = some (.pointer (some ⟨mB, f, none⟩)) := (gP.cell _).trans (ptrs_at mB offs _ f hf)
    have hS0 := And.intro c0 (And.intro c1 c2)
    have hfm : f < (setAll cs (numsV offs (ys.take (4 * k)) pre)).size := by rw [setAll_size]; exact hfs
    obtain ⟨u0, hu0⟩ : ∃ u0, W.cell? ⟨mB, f, none⟩ = some u0 := ⟨_, (gM.cell f).trans (Array.getElem?_eq_getElem hfm)⟩
    have hfz := gM.frozen f
    have hPW := HP2.out.upd gU (fun g hg => by omega)
    have hLW := hPW.lies
    rw [hAe] at hLW
    have hbyte := hPW.byte
    have hnum := number_pc b o 4 x (ys.take (4 * k)) W.drew (by exact hLW) (by decide) hbyte
    obtain ⟨q0, q1⟩ := pcn_bd (ys.take (4 * k)) 4 x (by decide) hbyte
    rw [hpl] at hnum
    have hSN := numsV_snoc offs (ys.take (4 * k)) pre x f hf
    generalize pcn (ys.take (4 * k)) 4 x = q at hnum q0 q1 hSN
    have HNUM := Lib.hid hnum; have HSN := Lib.hid hSN
    have GT := Lib.hid gT; have GK := Lib.hid gK; have GS := Lib.hid gS; have GP := Lib.hid gP; have GM := Lib.hid gM; have GU := Lib.hid gU
    have q2 : q < 4294967296 := q1
    clear hPW hLW hbyte hnum hSN hf hAe gT gK gS gP gM gU q1
    have hwq : IntKind.i64.wrap q = q := by rw [IntKind.wrap_i64]; omega
    have hmx : Try.prog.follows .mixedOrders = true := by kernel_rfl
    gi_wp2
    refine Rd.region_in (S := fun w' => w'.cell? ⟨w.heap.size, 0, none⟩ = some (.slice (some ⟨tb, 0, none⟩) k k) ∧ w'.cell? ⟨w.heap.size + 1, 0, none⟩ = some (.int .i64 pre.length) ∧ w'.cell? ⟨tb, pre.length, none⟩ = some (.pointer (some ⟨mB, f, none⟩))) hmx (by kernel_rfl) (fun ⟨_, _, h⟩ => h) hS0 (fun hH => ?_)
    refine wpAnyH_take (i := 0) (v := ?_) rfl (by kernel_rfl) (by kernel_rfl) (by kernel_rfl) (fun _ _ _ h => h) (Or.inl ⟨by rfl, ?_⟩) (by assumption) ?_
    rotate_left
    · (intro w hSw; (try dsimp only at hSw); go_simp; try with_reducible rfl)
    try simp only [Act.put, List.getElem_toArray, List.getElem_cons_zero, List.setIfInBounds_toArray, List.set_cons_zero, List.set_cons_succ]
    refine wpAnyH_take (i := 1) (v := ?_) rfl (by kernel_rfl) (by kernel_rfl) (by kernel_rfl) (fun _ _ _ h => h) (Or.inl ⟨by rfl, ?_⟩) (by assumption) ?_
    rotate_left
    · (intro w hSw; (try dsimp only at hSw); go_simp; try with_reducible rfl)
    try simp only [Act.put, List.getElem_toArray, List.getElem_cons_succ, List.getElem_cons_zero, List.setIfInBounds_toArray, List.set_cons_zero, List.set_cons_succ]
    refine wpAnyH_take (i := 2) (v := ?_) rfl (by kernel_rfl) (by kernel_rfl) (by kernel_rfl) (fun _ _ _ h => h) (Or.inl ⟨by rfl, ?_⟩) (by assumption) ?_
    rotate_left
    · (intro w hSw; (try dsimp only at hSw); go_simp; try with_reducible rfl)
    try simp only [Act.put, List.getElem_toArray, List.getElem_cons_succ, List.getElem_cons_zero, List.setIfInBounds_toArray, List.set_cons_zero, List.set_cons_succ]
    refine wpAnyH_take (i := 3) (v := ?_) rfl (by kernel_rfl) (by kernel_rfl) (by kernel_rfl) (fun _ _ _ h => h) (Or.inl ⟨by rfl, ?_⟩) (by assumption) ?_
    rotate_left
    · (intro w hSw; (try dsimp only at hSw); go_simp; try with_reducible rfl)
    try simp only [Act.put, List.getElem_toArray, List.getElem_cons_succ, List.getElem_cons_zero, List.setIfInBounds_toArray, List.set_cons_zero, List.set_cons_succ]
    refine wpAnyH_take (i := 4) (v := ?_) rfl (by kernel_rfl) (by kernel_rfl) (by kernel_rfl) (fun _ _ _ h => h) (Or.inl ⟨by rfl, ?_⟩) (by assumption) ?_
    rotate_left
    · (intro w hSw; (try dsimp only at hSw); go_simp; try with_reducible rfl)
    try simp only [Act.put, List.getElem_toArray, List.getElem_cons_succ, List.getElem_cons_zero, List.setIfInBounds_toArray, List.set_cons_zero, List.set_cons_succ]
    refine wpAnyH_ready (rs := [5]) (by kernel_rfl) (by simp) (AllReadyH.cons rfl (fun K hK => ?_) AllReadyH.nil)
    go_simp
    go_at_call 36; refine HNUM.out.mono ?_; rintro e w' ⟨rfl, rfl⟩
    go_wp2_with fail
    refine hK.out _ _ (by exact hS0) (fun hN => ?_)
    clear hK K hH
    have hH := hN
    clear hN
    try simp only [Act.put, List.getElem_toArray, List.getElem_cons_succ, List.getElem_cons_zero, List.setIfInBounds_toArray, List.set_cons_zero, List.set_cons_succ]
    refine wpAnyH_take (i := 6) (v := ?_) rfl (by kernel_rfl) (by kernel_rfl) (by kernel_rfl) (fun _ _ _ h => h) (Or.inl ⟨by rfl, ?_⟩) (by assumption) ?_
    rotate_left
    · (intro w hSw; (try dsimp only at hSw); go_simp; try with_reducible rfl)
    try simp only [Act.put, List.getElem_toArray, List.getElem_cons_succ, List.getElem_cons_zero, List.setIfInBounds_toArray, List.set_cons_zero, List.set_cons_succ]
    refine wpAnyH_take (i := 7) (v := ?_) rfl (by kernel_rfl) (by kernel_rfl) (by kernel_rfl) (fun _ _ _ h => h) (Or.inl ⟨by rfl, ?_⟩) (by assumption) ?_
    rotate_left
    · (intro w hSw; (try dsimp only at hSw); go_simp; try with_reducible rfl)
    try simp only [Act.put, List.getElem_toArray, List.getElem_cons_succ, List.getElem_cons_zero, List.setIfInBounds_toArray, List.set_cons_zero, List.set_cons_succ]
    refine wpAnyH_ready (rs := [8]) (by kernel_rfl) (by simp) (AllReadyH.cons rfl (fun K hK => ?_) AllReadyH.nil)
    go_simp
    refine hK.out _ _ (keepS (q := ⟨mB, f, none⟩) hS0 (show mB ≠ w.heap.size by omega) (show mB ≠ w.heap.size + 1 by omega) hmt) (fun hN => ?_)
    clear hK K hH
    have hH := hN
    clear hN
    try simp only [Act.put, List.getElem_toArray, List.getElem_cons_succ, List.getElem_cons_zero, List.setIfInBounds_toArray, List.set_cons_zero, List.set_cons_succ]
    refine wpAnyH_done (by kernel_rfl) ?_ _
    have kK := (show Blk W.drew (w.heap.size + 1) 3 #[.int .i64 pre.length] from GK.out).far (p := ⟨mB, f, none⟩) (show w.heap.size + 1 ≠ mB by omega) (.int .i64 q)
    have e1 : (W.setCell ⟨mB, f, none⟩ (.int .i64 q)).cell? ⟨w.heap.size + 1, 0, none⟩ = some (.int .i64 pre.length) := kK.cell 0
    have e2 : (W.setCell ⟨mB, f, none⟩ (.int .i64 q)).frozen? ⟨w.heap.size + 1, 0, none⟩ = false := kK.frozen 0
    have KK := Lib.hid kK
    clear kK
    dsimp only [Exit.then]
    gi_wp2
    have hcn : (((pre ++ [x]).length : Nat) : Int) = pre.length + 1 := by simp
    have d1 : mB ≠ w.heap.size := by omega
    have d2 : mB ≠ w.heap.size + 1 := by omega
    have d3 : mB ≠ w2.heap.size + 1 := by omega
    have gs := ((show Blk W _ _ _ from GS.out).far (p := ⟨mB, f, none⟩) (Ne.symm d3) (.int .i64 q)).far (p := ⟨w.heap.size + 1, 0, none⟩) (show w2.heap.size + 1 ≠ w.heap.size + 1 by omega) (.int .i64 (pre.length + 1))
    refine ⟨(((KeepsOthers.setCell W ⟨mB, f, none⟩ _).trans (KeepsOthers.setCell _ ⟨w.heap.size + 1, 0, none⟩ _)).trans (KeepsOthers.drew _)).from _, (gs.cell 0).trans (show W.cell? _ = _ from (show Blk W _ _ _ from GS.out).cell 0).symm, ?_, ?_, gs, ?_, ?_, ?_⟩
    · exact ((show Blk W _ _ _ from GT.out).far (p := ⟨mB, f, none⟩) (Ne.symm d1) _).far (p := ⟨w.heap.size + 1, 0, none⟩) (show w.heap.size ≠ w.heap.size + 1 by omega) _
    · rw [hcn]
      exact KK.out.set 0 _
    · exact (GP.out.far (p := ⟨mB, f, none⟩) (Ne.symm hmt) _).far (p := ⟨w.heap.size + 1, 0, none⟩) (show tb ≠ w.heap.size + 1 by omega) _
    · rw [HSN.out, setAll_snoc]
      exact (GM.out.set f (.int .i64 q)).far (p := ⟨w.heap.size + 1, 0, none⟩) d2 _
    · exact ((GU.out.setCell (p := ⟨mB, f, none⟩) (fun _ => .inl rfl) _).setCell (p := ⟨w.heap.size + 1, 0, none⟩) (fun _ => .inr rfl) _).drew
  case done =>
    rintro D ys' W hD rfl ⟨gT, gK, gS, gP, gM, gU⟩ hK
    have GM := Lib.hid gM; have GU := Lib.hid gU
    clear gT gK gS gP gM gU
    gi_wp2
    have hD2 : w2.heap.size ≤ D := by simp only [World.size_alloc] at hD; omega
    have hu := upd_putObj GU.out D _ (.deferred none) hD2 hK
    refine ⟨by simp, .inl ⟨_, _, rfl, run_takeDeferred hK, ?_⟩⟩
    refine ⟨_, results_none rfl _ _ _, ⟨_, rfl⟩, HR2.out.upd hu (fun g hg => by omega) (fun hg => by omega), ?_, ?_⟩
    · have h := blk_putObj GM.out (.deferred none) hK rfl
      rw [cnt4] at h
      exact h
    · refine ((HU0.out (fun g => g = r ∨ g = mB ∨ g = w.heap.size + 1)).trans ((HU2.out.mono fun g h => .inl h).trans (hu.mono fun g h => .inr h))).fresh fun g hg hgl => ?_
      rcases hg with h | h | h
      · exact .inl h
      · exact .inr h
      · omega
  case stop =>
    intro D c pre W _ _ h _
    exact h.elim
end Go.Proofs.Ytgcmbleinobneaa.Ip
