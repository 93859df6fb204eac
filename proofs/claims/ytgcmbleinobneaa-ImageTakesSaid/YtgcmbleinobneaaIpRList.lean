/- DERIVED. The contract of the reference's R.list. By an AI agent (written by gen-rlist.py). -/
import Derived.Test.YtgcmbleinobneaaIpCell2
import Derived.Test.YtgcmbleinobneaaIpTake2
import Derived.Test.YtgcmbleinobneaaImNum
namespace Go.Proofs.Ytgcmbleinobneaa.Ip
open Go.ChangeShapes Go.WideShapes Go.ChangeAt Go.RowKit Args ImRef
set_option linter.unusedVariables false
/-- What the reference's list hands back. -/
def ListR (n₀ r : Nat) (A : Option Addr) (c : Nat) (bs : List Int) (w : World) (P : List TI → Nat → Bool → Prop) (en : Ending) (w' : World) : Prop :=
  ∃ A' c' L at' sh', en = .returned (.slice A' L.length c') ∧ OwnC w.heap.size w' A' c' L ∧ L.length ≤ 255 ∧ (∀ x ∈ L, x.s.size ≤ 255) ∧ RR n₀ w' r A c bs at' sh' ∧ Upd (· = r) w w' ∧ P L at' sh'
def shE (sh : Bool) : Int := if sh then 3 else 0
set_option maxHeartbeats 2000000 in
theorem rlist_no (n₀ r : Nat) (A : Option Addr) (c : Nat) (bs : List Int) (at_ : Nat) (sh : Bool) (w : World) (hR : RR n₀ w r A c bs at_ sh) (h : sh = true ∨ (bs.length : Int) - at_ < 1) :
    Calls Try.prog 34 #[.pointer (some ⟨r, 0, none⟩)] w (ListR n₀ r A c bs w fun L at' sh' => L = [] ∧ sh' = true) := by
  have hrl := hR.lt
  have hu0 := (Upd.refl (fun _ => False) w).alloc (.cells #[] 41)
  have HC := Lib.hid (ImRef.num_no n₀ r A c bs at_ sh 1 _ (hR.upd hu0 (fun _ h => h.elim) (fun h => h)) (by decide) (by decide) h)
  have HO := Lib.hid (own_empty w (Nat.le_refl w.heap.size) 41 2)
  clear hR h hu0
  go_enter Try.func34, Try.ntmps34
  go_wp2_with fail
  refine HC.out.mono ?_
  rintro en w1 ⟨rfl, h1, h2⟩
  have HR1 := Lib.hid h1; have HU1 := Lib.hid h2
  clear h1 h2
  go_wp2_with fail
  go_loop [3, 5] (fun vl vi => vl = .slice (some ⟨w.heap.size, 0, none⟩) 0 0 ∧ vi = .int .i64 0) (fun _ _ => 0)
  case atStart => exact ⟨rfl, rfl⟩
  case round =>
    obtain ⟨rfl, rfl⟩ := hrel
    go_wp2_with fail
    go_ret
    refine ⟨_, _, [], at_, true, rfl, ?_, by decide, nofun, HR1.out, ((Upd.refl (· = r) w).alloc _).trans HU1.out, rfl, rfl⟩
    exact own_upd HO.out HU1.out fun g h1 h2 => by omega
def RRound (n₀ r N : Nat) (A : Option Addr) (c : Nat) (bs Y : List Int) (w wr : World) (k : Nat) (A' : Option Addr) (c' : Nat) (L : List TI) (at' : Nat) (sh : Bool) : Prop :=
  OwnC w.heap.size wr A' c' L ∧ (∀ x ∈ L, x.s.size ≤ 255) ∧ RR n₀ wr r A c bs at' sh ∧ Upd (· = r) w wr ∧ Came N Y k L (bs.drop at') (shE sh)
theorem conv_at {n₀ r c at_ : Nat} {w : World} {A : Option Addr} {bs : List Int} {sh : Bool} (h : RR n₀ w r A c bs at_ sh) (k : Nat) (hk : at_ + k ≤ bs.length) (b o : Nat) (hA : A = some ⟨b, o, none⟩) (c2 : Nat) : (convert 28 9 (.slice (some ⟨b, o + at_, none⟩) k c2)).run Try.prog w = .ok (.string (strOfNums ((bs.drop at_).take k))) w :=
  run_string_of 28 5 Try.underlying28 Try.underlying5 _ k c2 _ (by rw [List.length_take, List.length_drop]; omega) (fun j u hj => by
    rw [List.getElem?_map, List.getElem?_take] at hj
    split at hj
    · rename_i hjk
      rw [List.getElem?_drop] at hj
      obtain ⟨a, e, q⟩ := h.lies (at_ + j) u (by rw [List.getElem?_map]; exact hj)
      rw [hA] at e
      cases e
      refine ⟨_, rfl, ?_⟩
      rw [Args.add_plain] at q ⊢
      rw [Nat.add_assoc]
      exact q
    · cases hj) 9 Try.underlying9
theorem conv_0 (w : World) (A : Option Addr) (c : Nat) : (convert 28 9 (.slice A 0 c)).run Try.prog w = .ok (.string (strOfNums [])) w :=
  run_string_of 28 5 Try.underlying28 Try.underlying5 A 0 c [] rfl (Lies.nil _ _) 9 Try.underlying9
set_option maxRecDepth 100000 in
set_option maxHeartbeats 16000000 in
theorem rlist_yes (n₀ r : Nat) (A : Option Addr) (c : Nat) (bs : List Int) (at_ : Nat) (w : World) (hR : RR n₀ w r A c bs at_ false) (hl : at_ + 1 ≤ bs.length) (n : Int) (hn : n = numL ((bs.drop at_).take 1)) :
    Calls Try.prog 34 #[.pointer (some ⟨r, 0, none⟩)] w (ListR n₀ r A c bs w fun L at' sh' => Came n.toNat (bs.drop (at_ + 1)) n.toNat L (bs.drop at') (shE sh')) := by
  obtain ⟨i0, hi, hz0, hz1, hz2⟩ := info_parts infoC
  have HI := Lib.hid hi; have HZ0 := Lib.hid hz0; have HZ1 := Lib.hid hz1; have HZ2 := Lib.hid hz2
  have hrl := hR.lt
  have hreach := hR.reach
  have hcap := hR.cap
  have hmax := hR.max
  unfold maxLen at hmax
  have hu0 := (Upd.refl (fun _ => False) w).alloc (.cells #[] 41)
  have HC := Lib.hid (ImRef.num_yes n₀ r A c bs at_ 1 1 _ (hR.upd hu0 (fun _ h => h.elim) (fun h => h)) rfl (by decide) hl)
  have HO := Lib.hid (own_empty w (Nat.le_refl w.heap.size) 41 2)
  have hl1 : ((bs.drop at_).take 1).length = 1 := by rw [List.length_take, List.length_drop]; omega
  have hbd := numL_bd ((bs.drop at_).take 1) ((hR.byte.drop at_).take 1)
  rw [hl1, ← hn] at hbd
  rw [← hn] at HC
  obtain ⟨q0, q1⟩ := hbd
  have q2 : n < 256 := q1
  obtain ⟨x0, hx0⟩ : ∃ x, bs[0]? = some x := ⟨_, List.getElem?_eq_getElem (by omega)⟩
  obtain ⟨bb, oo, hA, _, _⟩ := hR.lies.at_ (j := 0) (u := .int .u8 x0) (by simp [hx0])
  obtain ⟨Y, hY⟩ : ∃ Y, Y = bs.drop (at_ + 1) := ⟨_, rfl⟩
  obtain ⟨N, hNN⟩ : ∃ N, N = n.toNat := ⟨_, rfl⟩
  rw [← hY, ← hNN]
  have hNn : n = (N : Int) := by omega
  have hN255 : N ≤ 255 := by omega
  subst hNn hA
  have HY := Lib.hid hY
  clear hR hi hz0 hz1 hz2 hu0 hl1 q1 hn hY hNN hx0 q0 q2
  go_enter Try.func34, Try.ntmps34
  go_wp2_with fail
  refine HC.out.mono ?_
  rintro en w1 ⟨rfl, h1, h2⟩
  have HR1 := Lib.hid h1; have HU1 := Lib.hid h2
  clear h1 h2
  go_wp2_with fail
  go_loopw [3, 5] (fun vl vi wr => ∃ (k : Nat) (A' : Option Addr) (c' : Nat) (L : List TI) (at' : Nat) (sh : Bool), k ≤ N ∧ Hid (L.length = k) ∧ vl = .slice A' L.length c' ∧ vi = .int .i64 k ∧ Hid (RRound n₀ r N (some ⟨bb, oo, none⟩) c bs Y w wr k A' c' L at' sh)) (fun _ vi _ => N - (intOf vi).toNat)
  case atStart => exact ⟨0, _, _, [], at_ + 1, false, by omega, Lib.hid rfl, rfl, rfl, Lib.hid ⟨own_upd HO.out HU1.out fun g h1 h2 => by omega, nofun, HR1.out, ((Upd.refl (· = r) w).alloc _).trans HU1.out, .inl ⟨rfl, by rw [Nat.sub_zero, HY.out]; cases rdCells N (bs.drop (at_ + 1)) <;> simp⟩⟩⟩
  case round =>
    obtain ⟨k, A', c', L, at', sh, hk, HLK, rfl, rfl, HH⟩ := hrel
    have b2 : wr.cell? ⟨r, 2, none⟩ = some (.bool sh) := HH.out.2.2.1.blk.cell 2
    have hLl : L.length ≤ 255 := by have := HLK.out; omega
    by_cases hlt : k < N
    · cases sh with
      | true =>
        obtain ⟨ho, hss, hr, hu, hc⟩ := id HH.out
        have hce : Came N Y N L (bs.drop at') (shE true) := .inr ⟨rfl, (hc.resolve_left fun h => absurd h.1 (by decide)).2⟩
        have HA := Lib.hid ho; have HS := Lib.hid hss; have HR := Lib.hid hr; have HU := Lib.hid hu; have HC := Lib.hid hce
        clear ho hss hr hu hc hce
        go_wp2_with fail
        go_ret
        exact ⟨A', c', L, at', true, rfl, HA.out, hLl, HS.out, HR.out, HU.out, HC.out⟩
      | false =>
        obtain ⟨ho, hss, hr, hu, hc⟩ := id HH.out
        have hur := hu.size
        have hat := hr.at_le
        by_cases hb1 : (bs.length : Int) - at' < 1
        · have HN := Lib.hid (ImRef.num_no n₀ r _ c bs at' false 1 wr hr (by decide) (by decide) (.inr hb1))
          have hce := came_no (L' := L) (ys' := bs.drop at') hc hlt (fun _ => by
            unfold rdCell
            rw [rdNum_no 1 (bs.drop at') (by rw [List.length_drop]; omega)]; rfl)
          have HCE := Lib.hid ((hce.resolve_left fun h => absurd h.1 (by decide)).2)
          have HOC := Lib.hid ho; have HUW := Lib.hid hu; have HSS := Lib.hid hss
          have hd : decide ((bs.length : Int) - at' < 0) = false := decide_eq_false (by omega)
          clear hce hc hr ho hu hss hb1
          go_wp2_with fail
          refine HN.out.mono ?_
          rintro en w2 ⟨rfl, h1, h2⟩
          have d0 : w2.cell? ⟨r, 0, none⟩ = some (.slice (some ⟨bb, oo, none⟩) bs.length c) := h1.blk.cell 0
          have d1 : w2.cell? ⟨r, 1, none⟩ = some (.int .i64 at') := h1.blk.cell 1
          have d2 : w2.cell? ⟨r, 2, none⟩ = some (.bool true) := h1.blk.cell 2
          have HR2 := Lib.hid h1; have HU2 := Lib.hid h2
          clear h1 h2 HN
          go_wp2_with fail
          go_quiet (fail)
          go_wp2_with fail
          go_ret
          have hu2 := HU2.out.drewN nq
          exact ⟨A', c', L, at', true, rfl, own_upd HOC.out hu2 (fun g hg _ => by omega), hLl, HSS.out, HR2.out.upd ((Upd.refl (fun _ => False) w2).drewN nq) (fun _ h => h.elim) (fun h => h), HUW.out.trans hu2, .inr ⟨rfl, HCE.out⟩⟩
        · have hl1 : at' + 1 ≤ bs.length := by omega
          obtain ⟨q, hq⟩ : ∃ q, q = numL ((bs.drop at').take 1) := ⟨_, rfl⟩
          have hlp : ((bs.drop at').take 1).length = 1 := by rw [List.length_take, List.length_drop]; omega
          have hqb := numL_bd ((bs.drop at').take 1) ((hr.byte.drop at').take 1)
          rw [← hq, hlp] at hqb
          have q1 : q < 256 := hqb.2
          obtain ⟨u, rfl⟩ : ∃ u : Nat, q = u := ⟨q.toNat, by have := hqb.1; omega⟩
          have hN := ImRef.num_yes n₀ r _ c bs at' 1 1 wr hr rfl (by decide) hl1
          rw [← hq] at hN
          have HN := Lib.hid hN
          have hcell := rdCell_at (bs.drop at') u hq.symm (by rw [List.length_drop]; omega)
          rw [Int.toNat_natCast, List.drop_drop] at hcell
          clear hN hq hqb hlp hb1
          by_cases hb2 : bs.length < at' + 1 + u
          · have hce := came_no (L' := L) (ys' := bs.drop (at' + 1)) hc hlt (fun _ => by
              rw [hcell]
              unfold rdName
              rw [if_pos (by rw [List.length_drop]; omega)]; rfl)
            have HCE := Lib.hid ((hce.resolve_left fun h => absurd h.1 (by decide)).2)
            have HOC := Lib.hid ho; have HUW := Lib.hid hu; have HSS := Lib.hid hss
            have hd : decide ((bs.length : Int) - ((at' + 1 : Nat) : Int) < (u : Int)) = true := decide_eq_true (by omega)
            clear hce hc hr ho hu hss hcell
            go_wp2_with fail
            refine HN.out.mono ?_
            rintro en w2 ⟨rfl, h1, h2⟩
            have d0 : w2.cell? ⟨r, 0, none⟩ = some (.slice (some ⟨bb, oo, none⟩) bs.length c) := h1.blk.cell 0
            have d1 : w2.cell? ⟨r, 1, none⟩ = some (.int .i64 ((at' + 1 : Nat) : Int)) := h1.blk.cell 1
            have d2 : w2.cell? ⟨r, 2, none⟩ = some (.bool false) := h1.blk.cell 2
            have d3 := h1.blk.frozen 2
            have HR2 := Lib.hid h1; have HU2 := Lib.hid h2
            clear h1 h2 HN
            go_wp2_with fail
            go_quiet (fail)
            have HB := Lib.hid ((show Blk (w2.drewN nq) r _ _ from HR2.out.blk).set 2 (.bool true))
            have HU := Lib.hid (((Upd.refl (· = r) w2).drewN nq).setCell (p := ⟨r, 2, none⟩) (fun _ => rfl) (.bool true))
            have e2 : ((w2.drewN nq).setCell ⟨r, 2, none⟩ (.bool true)).cell? ⟨r, 2, none⟩ = some (.bool true) := HB.out.cell 2
            go_wp2_with fail
            go_ret
            have hu2 := HU2.out.trans HU.out
            exact ⟨A', c', L, at' + 1, true, rfl, own_upd HOC.out hu2 (fun g hg _ => by omega), hLl, HSS.out, HR2.out.set HU.out HB.out hl1, HUW.out.trans hu2, .inr ⟨rfl, HCE.out⟩⟩
          · have hb2' : at' + 1 + u ≤ bs.length := by omega
            have hd : decide ((bs.length : Int) - ((at' + 1 : Nat) : Int) < (u : Int)) = false := decide_eq_false (by omega)
            have HOC := Lib.hid ho; have HUW := Lib.hid hu; have HSS := Lib.hid hss; have HCM := Lib.hid hc; have HCELL := Lib.hid hcell
            clear ho hu hss hc hcell hr
            go_wp2_with fail
            refine HN.out.mono ?_
            rintro en w2 ⟨rfl, h1, h2⟩
            have d0 : w2.cell? ⟨r, 0, none⟩ = some (.slice (some ⟨bb, oo, none⟩) bs.length c) := h1.blk.cell 0
            have d1 : w2.cell? ⟨r, 1, none⟩ = some (.int .i64 ((at' + 1 : Nat) : Int)) := h1.blk.cell 1
            have d2 : w2.cell? ⟨r, 2, none⟩ = some (.bool false) := h1.blk.cell 2
            have hr2 : r < w2.heap.size := h1.lt
            have HR2 := Lib.hid h1; have HU2 := Lib.hid h2
            clear h1 h2 HN
            go_wp2_with fail
            go_quiet (fail)
            have HR3 := Lib.hid (HR2.out.upd ((Upd.refl (fun _ => False) w2).drewN nq) (fun _ h => h.elim) (fun h => h))
            have HU3 := Lib.hid (HU2.out.drewN nq)
            have HUN := Lib.hid ((Upd.refl (fun _ => False) w2).drewN nq)
            clear d0 d1 d2
            generalize w2.drewN nq = w3 at *
            have z0 : w3.cell? ⟨r, 0, none⟩ = some (.slice (some ⟨bb, oo, none⟩) bs.length c) := HR3.out.blk.cell 0
            have z1 : w3.cell? ⟨r, 1, none⟩ = some (.int .i64 ((at' + 1 : Nat) : Int)) := HR3.out.blk.cell 1
            have z2 : w3.cell? ⟨r, 2, none⟩ = some (.bool false) := HR3.out.blk.cell 2
            have hr3 : r < w3.heap.size := HR3.out.lt
            have hkc : ∀ W, Upd (fun _ => False) w3 W → (convert 28 9 (.slice (if c = at' + 1 then some ⟨bb, oo, none⟩ else some ⟨bb, oo + (at' + 1), none⟩) (at' + 1 + u - (at' + 1)) (c - (at' + 1)))).run Try.prog W = .ok (.string (strOfNums ((bs.drop (at' + 1)).take u))) W := fun W hW => by
              rw [Nat.add_sub_cancel_left]
              split
              · have hu0 : u = 0 := by omega
                rw [hu0]
                exact conv_0 _ _ _
              · exact conv_at (HR3.out.upd hW (fun _ h => h.elim) (fun h => h)) u hb2' bb oo rfl _
            have hkc0 := hkc _ ((Upd.refl (fun _ => False) w3).drew)
            have hkd0 := hkc _ ((Upd.refl (fun _ => False) w3).drew)
            have hkd1 := hkc _ (((Upd.refl (fun _ => False) w3).alloc (.cells #[.string ⟨#[]⟩, .int .i64 0] 41)).drew)
            rw [Nat.add_sub_cancel_left] at hkd0 hkd1
            have hkc1 := hkc _ (((Upd.refl (fun _ => False) w3).alloc (.cells #[.string ⟨#[]⟩, .int .i64 0] 41)).drew)
            clear hkc
            have hsl1 : at' + 1 ≤ c := by omega
            have hsl2 : at' + 1 + u ≤ c := by omega
            go_wp2_with fail
            go_region
            all_goals
              clear hkc0 hkc1 hkd0 hkd1
              try generalize (if c = at' + 1 then (some ⟨bb, oo, none⟩ : Option Addr) else some ⟨bb, oo + (at' + 1), none⟩) = A59
              obtain ⟨s, hs⟩ : ∃ s, s = strOfNums ((bs.drop (at' + 1)).take u) := ⟨_, rfl⟩
              rw [← hs]
              have hss255 : s.size ≤ 255 := by rw [hs, strOfNums_size, List.length_take]; omega
              have hcast : (at' : Int) + 1 + u = ((at' + 1 + u : Nat) : Int) := by omega
              have hb5 := HR3.out.blk.set 1 (.int .i64 ((at' + 1 + u : Nat) : Int))
              have hu5 : Upd (· = r) w3 (w3.setCell ⟨r, 1, none⟩ (.int .i64 ((at' + 1 + u : Nat) : Int))) := (Upd.refl (· = r) _).setCell (p := ⟨r, 1, none⟩) (fun _ => rfl) _
              have hr5 := HR3.out.set hu5 hb5 hb2'
              rw [← hcast] at hr5 hu5
              have hu4 : Upd (fun _ => False) (w3.setCell ⟨r, 1, none⟩ (.int .i64 ((at' : Int) + 1 + u))) ((w3.setCell ⟨r, 1, none⟩ (.int .i64 ((at' : Int) + 1 + u))).alloc (.cells #[.string s, .int .i64 0] 41)).drew := ((Upd.refl (fun _ => False) _).alloc _).drew
              have hr5 := hr5.upd hu4 (fun _ h => h.elim) (fun h => h)
              have hbx5 := (Blk.new (w3.setCell ⟨r, 1, none⟩ (.int .i64 ((at' : Int) + 1 + u))) 41 #[.string s, .int .i64 0]).drew
              rw [show (w3.setCell ⟨r, 1, none⟩ (.int .i64 ((at' : Int) + 1 + u))).heap.size = w3.heap.size by simp] at hbx5
              have hu45 := hu5.trans (hu4.mono fun _ h => h.elim)
              have y1 := HR3.out.blk.frozen 1
              have HR5 := Lib.hid hr5; have HBX5 := Lib.hid hbx5
              have HU5P := Lib.hid ((HUN.out.mono fun _ h => h.elim : Upd (· = r) w2 w3).trans hu45)
              have HS := Lib.hid hs; have H255 := Lib.hid hss255
              have hsz3 := HU3.out.size
              have hsz23 := HUN.out.size
              clear hs hss255 hu4 hcast hb5 hu5 hr5 hbx5 hu45
              by_cases hb3 : bs.length < at' + 1 + u + 4
              · go_wp2_with fail
                refine (ImRef.num_no n₀ r _ c bs (at' + 1 + u) false 4 _ HR5.out (by decide) (by decide) (.inr (by omega))).mono ?_
                rintro en w6 ⟨rfl, h1, h2⟩
                have hce := came_no (L' := L ++ [⟨s, 0⟩]) (ys' := bs.drop (at' + 1 + u)) HCM.out hlt (fun _ => by
                  rw [HCELL.out]
                  unfold rdName
                  rw [if_neg (by rw [List.length_drop]; omega), Option.bind_some]
                  dsimp only
                  rw [rdNum_no 4 _ (by rw [List.length_drop, List.length_drop]; omega)]; rfl)
                have HCA := Lib.hid (show Came N Y (k + 1) (L ++ [⟨s, 0⟩]) (bs.drop (at' + 1 + u)) (shE true) from hce)
                clear hce
                have hbx6 := HBX5.out.upd h2 (by omega)
                have f0 : w6.cell? ⟨w3.heap.size, 0, none⟩ = some (.string s) := hbx6.cell 0
                have f1 : w6.cell? ⟨w3.heap.size, 1, none⟩ = some (.int .i64 0) := hbx6.cell 1
                have f2 := hbx6.frozen 1
                have HB7 := Lib.hid (hbx6.set 1 (.int .i64 0))
                obtain ⟨W7, hW7⟩ : ∃ W7, W7 = w6.setCell ⟨w3.heap.size, 1, none⟩ (.int .i64 0) := ⟨_, rfl⟩
                have HW7 := Lib.hid hW7
                have hu7 : Upd (· = w3.heap.size) w6 W7 := by rw [hW7]; exact (Upd.refl (· = w3.heap.size) _).setCell (p := ⟨w3.heap.size, 1, none⟩) (fun _ => rfl) _
                have hsz5 : w3.heap.size + 1 ≤ w6.heap.size := by have := h2.size; simpa using this
                have hr7 := h1.upd hu7 (fun g hg => by have := h1.own; omega) (by omega)
                have hu37 : Upd (fun g => g = r ∨ g = w3.heap.size) w2 W7 := ((HU5P.out.trans h2).mono fun _ h => .inl h).trans (hu7.mono fun _ h => .inr h)
                have hu27 : Upd (· = r) w2 W7 := hu37.fresh fun g hg hl => hg.elim id fun h => by omega
                have hu7w := HUW.out.trans (HU2.out.trans hu27)
                have ho7 := HOC.out.upd (HU2.out.trans hu27) (fun g hg _ => by omega)
                have HOW := Lib.hid (show (W7.alloc (.cells #[.string s, .int .i64 0] 41)).ownsRow w.heap.size 41 2 (.slice A' L.length c') L.length (L.flatMap TI.cells) from World.ownsRow.alloc ho7 _)
                have HOBB := Lib.hid (show ∀ q, (Value.slice A' L.length c').ownBlock = some q → w.heap.size ≤ q from fun q hq => (World.ownsRow.lt (show W7.ownsRow w.heap.size 41 2 (.slice A' L.length c') L.length (L.flatMap TI.cells) from ho7) q hq).1)
                have HLI := Lib.hid (show Lies (W7.alloc (.cells #[.string s, .int .i64 0] 41)) (some ⟨W7.heap.size, 0, none⟩) [.string s, .int .i64 0] from fun j u hj => ⟨_, rfl, by
                  rw [Args.add_plain, Nat.zero_add, World.cell?_alloc_at _ _ _ _ rfl]
                  simpa using hj⟩)
                have HR7 := Lib.hid hr7; have HU7 := Lib.hid hu7w
                have hbs7 : w.heap.size ≤ (W7.alloc (.cells #[.string s, .int .i64 0] 41)).heap.size := by have := hu7w.size; simp; omega
                have HBS := Lib.hid hbs7
                clear hbx6 h1 h2 hu7 hr7 hu37 hu27 hu7w ho7 hbs7 hW7
                go_upto_region 13 with fail
                rw [← HW7.out]
                have g0 : W7.cell? ⟨w3.heap.size, 0, none⟩ = some (.string s) := by rw [HW7.out]; exact HB7.out.cell 0
                have g1 : W7.cell? ⟨w3.heap.size, 1, none⟩ = some (.int .i64 0) := by rw [HW7.out]; exact HB7.out.cell 1
                clear f0 f1 f2
                go_wp2_with (at_builtin; refine wpList_fresh rfl _ _ 23 rfl w.heap.size 41 i0 (.agg #[.string ⟨#[]⟩, .int .i64 0]) 2 24 Try.underlying23 HI.out HZ0.out HZ1.out HZ2.out rfl (by decide) _ L.length _ rfl HOW.out (some ⟨W7.heap.size, 0, none⟩) 1 1 [.string s, .int .i64 0] rfl rfl HLI.out (by simp [Value.oneCell']) (by unfold maxLen; omega) (by omega) HBS.out ?_; intro A8 c8 w8 h2 h3 h4 h5; have H4 := Lib.hid h4; have H5 := Lib.hid h5; clear h2 h3 h4 h5)
                go_roundw
                case rel =>
                  have ha := (((Upd.refl (fun g => (Value.slice A' L.length c').ownBlock = some g) W7).alloc (.cells #[.string s, .int .i64 0] 41)).grown H5.out fun g hg _ => hg)
                  refine ⟨k + 1, A8, c8, L ++ [⟨s, 0⟩], _, true, by omega, Lib.hid (by simp [HLK.out]), ?_, by go_num, Lib.hid ⟨?_, ?_, HR7.out.upd ha (fun g hg => ?_) (fun hg => by have := HOBB.out r hg; omega), ?_, HCA.out⟩⟩
                  · rw [List.length_append]; rfl
                  · unfold OwnC
                    rw [List.length_append, List.flatMap_append]
                    exact H4.out
                  · intro x hx
                    rcases List.mem_append.1 hx with hx | hx
                    · exact HSS.out x hx
                    · simp at hx; subst hx; exact H255.out
                  · have := HOBB.out g hg
                    have := HR7.out.own
                    omega
                  · exact (HU7.out.alloc _).grown H5.out fun g hg hl => by have := HOBB.out g hg; omega
                case measure => simp [intOf]; omega

              · go_wp2_with fail
                refine (ImRef.num_yes n₀ r _ c bs (at' + 1 + u) 4 4 _ HR5.out rfl (by decide) (by omega)).mono ?_
                rintro en w6 ⟨rfl, h1, h2⟩
                have hce := came_yes (c := ⟨s, numL ((bs.drop (at' + 1 + u)).take 4)⟩) (y2 := bs.drop (at' + 1 + u + 4)) HCM.out hlt (by
                  rw [HCELL.out]
                  unfold rdName
                  rw [if_neg (by rw [List.length_drop]; omega), Option.bind_some]
                  dsimp only
                  unfold rdNum
                  rw [if_neg (by rw [List.length_drop, List.length_drop]; omega), Option.bind_some, List.drop_drop, List.drop_drop, ← HS.out])
                have HCA := Lib.hid (show Came N Y (k + 1) (L ++ [⟨s, numL ((bs.drop (at' + 1 + u)).take 4)⟩]) (bs.drop (at' + 1 + u + 4)) (shE false) from hce)
                clear hce
                generalize numL ((bs.drop (at' + 1 + u)).take 4) = mm at *
                have hbx6 := HBX5.out.upd h2 (by omega)
                have f0 : w6.cell? ⟨w3.heap.size, 0, none⟩ = some (.string s) := hbx6.cell 0
                have f1 : w6.cell? ⟨w3.heap.size, 1, none⟩ = some (.int .i64 0) := hbx6.cell 1
                have f2 := hbx6.frozen 1
                have HB7 := Lib.hid (hbx6.set 1 (.int .i64 mm))
                obtain ⟨W7, hW7⟩ : ∃ W7, W7 = w6.setCell ⟨w3.heap.size, 1, none⟩ (.int .i64 mm) := ⟨_, rfl⟩
                have HW7 := Lib.hid hW7
                have hu7 : Upd (· = w3.heap.size) w6 W7 := by rw [hW7]; exact (Upd.refl (· = w3.heap.size) _).setCell (p := ⟨w3.heap.size, 1, none⟩) (fun _ => rfl) _
                have hsz5 : w3.heap.size + 1 ≤ w6.heap.size := by have := h2.size; simpa using this
                have hr7 := h1.upd hu7 (fun g hg => by have := h1.own; omega) (by omega)
                have hu37 : Upd (fun g => g = r ∨ g = w3.heap.size) w2 W7 := ((HU5P.out.trans h2).mono fun _ h => .inl h).trans (hu7.mono fun _ h => .inr h)
                have hu27 : Upd (· = r) w2 W7 := hu37.fresh fun g hg hl => hg.elim id fun h => by omega
                have hu7w := HUW.out.trans (HU2.out.trans hu27)
                have ho7 := HOC.out.upd (HU2.out.trans hu27) (fun g hg _ => by omega)
                have HOW := Lib.hid (show (W7.alloc (.cells #[.string s, .int .i64 mm] 41)).ownsRow w.heap.size 41 2 (.slice A' L.length c') L.length (L.flatMap TI.cells) from World.ownsRow.alloc ho7 _)
                have HOBB := Lib.hid (show ∀ q, (Value.slice A' L.length c').ownBlock = some q → w.heap.size ≤ q from fun q hq => (World.ownsRow.lt (show W7.ownsRow w.heap.size 41 2 (.slice A' L.length c') L.length (L.flatMap TI.cells) from ho7) q hq).1)
                have HLI := Lib.hid (show Lies (W7.alloc (.cells #[.string s, .int .i64 mm] 41)) (some ⟨W7.heap.size, 0, none⟩) [.string s, .int .i64 mm] from fun j u hj => ⟨_, rfl, by
                  rw [Args.add_plain, Nat.zero_add, World.cell?_alloc_at _ _ _ _ rfl]
                  simpa using hj⟩)
                have HR7 := Lib.hid hr7; have HU7 := Lib.hid hu7w
                have hbs7 : w.heap.size ≤ (W7.alloc (.cells #[.string s, .int .i64 mm] 41)).heap.size := by have := hu7w.size; simp; omega
                have HBS := Lib.hid hbs7
                clear hbx6 h1 h2 hu7 hr7 hu37 hu27 hu7w ho7 hbs7 hW7
                go_upto_region 13 with fail
                rw [← HW7.out]
                have g0 : W7.cell? ⟨w3.heap.size, 0, none⟩ = some (.string s) := by rw [HW7.out]; exact HB7.out.cell 0
                have g1 : W7.cell? ⟨w3.heap.size, 1, none⟩ = some (.int .i64 mm) := by rw [HW7.out]; exact HB7.out.cell 1
                clear f0 f1 f2
                go_wp2_with (at_builtin; refine wpList_fresh rfl _ _ 23 rfl w.heap.size 41 i0 (.agg #[.string ⟨#[]⟩, .int .i64 0]) 2 24 Try.underlying23 HI.out HZ0.out HZ1.out HZ2.out rfl (by decide) _ L.length _ rfl HOW.out (some ⟨W7.heap.size, 0, none⟩) 1 1 [.string s, .int .i64 mm] rfl rfl HLI.out (by simp [Value.oneCell']) (by unfold maxLen; omega) (by omega) HBS.out ?_; intro A8 c8 w8 h2 h3 h4 h5; have H4 := Lib.hid h4; have H5 := Lib.hid h5; clear h2 h3 h4 h5)
                go_roundw
                case rel =>
                  have ha := (((Upd.refl (fun g => (Value.slice A' L.length c').ownBlock = some g) W7).alloc (.cells #[.string s, .int .i64 mm] 41)).grown H5.out fun g hg _ => hg)
                  refine ⟨k + 1, A8, c8, L ++ [⟨s, mm⟩], _, false, by omega, Lib.hid (by simp [HLK.out]), ?_, by go_num, Lib.hid ⟨?_, ?_, HR7.out.upd ha (fun g hg => ?_) (fun hg => by have := HOBB.out r hg; omega), ?_, HCA.out⟩⟩
                  · rw [List.length_append]; rfl
                  · unfold OwnC
                    rw [List.length_append, List.flatMap_append]
                    exact H4.out
                  · intro x hx
                    rcases List.mem_append.1 hx with hx | hx
                    · exact HSS.out x hx
                    · simp at hx; subst hx; exact H255.out
                  · have := HOBB.out g hg
                    have := HR7.out.own
                    omega
                  · exact (HU7.out.alloc _).grown H5.out fun g hg hl => by have := HOBB.out g hg; omega
                case measure => simp [intOf]; omega
    · have hkN : k = N := by omega
      obtain ⟨ho, hss, hr, hu, hc⟩ := id HH.out
      rw [hkN] at hc
      have HA := Lib.hid ho; have HS := Lib.hid hss; have HR := Lib.hid hr; have HU := Lib.hid hu; have HC := Lib.hid hc
      clear ho hss hr hu hc hkN
      go_wp2_with fail
      go_ret
      exact ⟨A', c', L, at', sh, rfl, HA.out, hLl, HS.out, HR.out, HU.out, HC.out⟩
end Go.Proofs.Ytgcmbleinobneaa.Ip
