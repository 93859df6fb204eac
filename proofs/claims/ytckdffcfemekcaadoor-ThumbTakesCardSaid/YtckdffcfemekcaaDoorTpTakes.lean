/- DERIVED. The walk of the law which instruction each halfword is. By an AI agent. -/
import Derived.Test.YtckdffcfemekcaaDoorTpRises
import Derived.Test.YtckdffcfemekcaaDoorTpRTake
namespace Go.Proofs.YtckdffcfemekcaaDoor
open Go.ChangeShapes Go.WideShapes Go.ChangeAt Go.RowKit Go.Sort ThRef Tp
set_option linter.unusedVariables false
theorem Tp.takeF_ok (h : Nat) : ∀ n op k s, takeF n op h = (k, s, 0) → headB k h = true ∧ canN k s = true ∧ s = tk k h ∧ k < op + n
  | 0, op, k, s, hr => by simp [takeF] at hr
  | n + 1, op, k, s, hr => by
    rw [takeF] at hr
    split at hr
    · rename_i hc
      simp at hc hr
      obtain ⟨rfl, rfl⟩ := hr
      exact ⟨hc.1, hc.2, rfl, by omega⟩
    · obtain ⟨h1, h2, h3, h4⟩ := Tp.takeF_ok h n (op + 1) k s hr
      exact ⟨h1, h2, h3, by omega⟩
set_option maxHeartbeats 8000000 in
theorem Tp.sum_tk (op : Nat) (ho : op < 21) (h : Nat) (hh : h < 65536) (hd : headB op h = true) : baseN op + sumT (shpN op).has (tk op h) = h := by
  unfold headB at hd
  rw [decide_eq_true_eq] at hd
  have hr : op = 0 ∨ op = 1 ∨ op = 2 ∨ op = 3 ∨ op = 4 ∨ op = 5 ∨ op = 6 ∨ op = 7 ∨ op = 8 ∨ op = 9 ∨ op = 10 ∨ op = 11 ∨ op = 12 ∨ op = 13 ∨ op = 14 ∨ op = 15 ∨ op = 16 ∨ op = 17 ∨ op = 18 ∨ op = 19 ∨ op = 20 := by omega
  clear ho
  rcases hr with rfl | rfl | rfl | rfl | rfl | rfl | rfl | rfl | rfl | rfl | rfl | rfl | rfl | rfl | rfl | rfl | rfl | rfl | rfl | rfl | rfl
  all_goals
    simp [shpN, shps] at hd
    simp [baseN, sumT, putN, shpN, shps, tk, tkT, takeN, nul, fldN, flds, Nums.get, Nums.set]
    omega
theorem Tp.put_take (op : Nat) (ho : op < 21) (h : Nat) (hh : h < 65536) (hd : headB op h = true) (hc : canN op (tk op h) = true) : putI op (tk op h).d (tk op h).n (tk op h).m (tk op h).i = h := by
  rw [putI_sum op ho _ _ _ _ hc]
  exact Tp.sum_tk op ho h hh hd
set_option maxRecDepth 100000 in
set_option maxHeartbeats 8000000 in
theorem thumbTakes.walk (a : Int) (hw : (Lit.int .u16 a).wf = true) (W : World) (hT : Tb W) :
    Calls Tryd.prog 4 #[.int .u16 a] W fun e w' => e = .returned (.bool true) ∧ Below W.heap.size W w' := by
  have hb := bounds_u16 hw
  obtain ⟨hf, rfl⟩ := Int.eq_ofNat_of_zero_le hb.1
  have hh : hf < 65536 := by omega
  have htk := takeP hf hh
  have htr := takeR hf hh
  obtain ⟨k, e, s, htf, hes⟩ := Tp.take_in hf
  have hput : e = 0 → ∀ w, Tb w → Calls Tryd.prog 8 #[ins k s.d s.n s.m s.i] w fun z w' => z = .returned (.tuple #[.int .u16 hf, .int .i64 0]) ∧ Below w.heap.size w w' := fun he w hTw => by
    subst he
    obtain ⟨h1, h2, h3, h4⟩ := Tp.takeF_ok hf 21 0 k s htf
    have hc : canB k s.d s.n s.m s.i = true := h2
    have hv : putV k s.d s.n s.m s.i = .tuple #[.int .u16 hf, .int .i64 0] := by
      have : putI k s.d s.n s.m s.i = hf := by rw [h3]; exact Tp.put_take k (by omega) hf hh h1 (by rw [← h3]; exact h2)
      rw [← this]
      unfold putV
      rw [hc]; rfl
    rw [← hv]
    exact putP k s.d s.n s.m s.i w hTw
  rw [htf, Tp.resV_eq] at htk htr
  clear hb hw htf
  have HT := Lib.hid hT; have HTK := Lib.hid htk; have HTR := Lib.hid htr; have HPUT := Lib.hid hput; have HES := Lib.hid hes
  clear hT htk htr hput hes hh
  go_enter Tryd.func4, Tryd.ntmps4
  go_wp2_with fail
  refine (HTK.out _ HT.out).mono ?_
  rintro z w1 ⟨rfl, hb1⟩
  have HB1 := Lib.hid hb1
  clear hb1
  go_wp2_with fail
  refine (HTR.out _).mono ?_
  rintro z w2 ⟨rfl, hb2⟩
  obtain ⟨⟨q0, q1, q2, q3, q4⟩, hbw, hz⟩ := Tp.cells5 hb2
  have HB2 := Lib.hid (HB1.out.trans (hbw.mono HB1.out.size))
  clear hb2 hbw
  rcases HES.out with he | ⟨he, hk, hs⟩
  · have hput := HPUT.out he
    subst he
    have HPUT2 := Lib.hid hput
    clear hput
    go_wp2_with fail
    refine (HPUT2.out _ (HT.out.below (HB2.out.alloc HB2.out.size _))).mono ?_
    rintro z w3 ⟨rfl, hb3⟩
    have HB3 := Lib.hid ((HB2.out.alloc HB2.out.size _).trans (hb3.mono (by have := HB2.out.size; simp; omega)))
    clear hb3 q0 q1 q2 q3 q4 hz
    go_wp2_with fail
    refine (Tp.lives _ (HT.out.below HB3.out)).mono ?_
    rintro z w4 ⟨rfl, hb4⟩
    go_wp2_with fail
    go_ret
    exact ⟨rfl, HB3.out.trans (hb4.mono HB3.out.size)⟩
  · subst he hk hs
    have p1' : w2.cell? ⟨w1.heap.size, 1, none⟩ = some (.int .i64 0) := q1
    have p2' : w2.cell? ⟨w1.heap.size, 2, none⟩ = some (.int .i64 0) := q2
    have p3' : w2.cell? ⟨w1.heap.size, 3, none⟩ = some (.int .i64 0) := q3
    have p4' : w2.cell? ⟨w1.heap.size, 4, none⟩ = some (.int .i64 0) := q4
    clear q1 q2 q3 q4
    go_wp2_with fail
    refine (Tp.lives _ (HT.out.below (HB2.out.alloc HB2.out.size _))).mono ?_
    rintro z w4 ⟨rfl, hb4⟩
    go_wp2_with fail
    go_ret
    exact ⟨rfl, (HB2.out.alloc HB2.out.size _).trans (hb4.mono (by have := HB2.out.size; simp; omega))⟩
end Go.Proofs.YtckdffcfemekcaaDoor
