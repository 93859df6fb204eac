/- DERIVED. The laws' living call, and their short. By an AI agent. -/
import Derived.Test.YtldfnjjgacieoaaMmNew
namespace Go.Proofs.Ytldfnjjgacieoaa.Mm
open Go.ChangeShapes Go.WideShapes Go.ChangeAt Go.RowKit Args
set_option linter.unusedVariables false
theorem back {X : Nat → Prop} {w w1 w' : World} (h : Ext w w1) (hu : Upd X w1 w') (hX : ∀ k, X k → w.heap.size ≤ k) : Ext w w' := Below.trans h (hu.below h.size hX)
theorem PM.X_low {t u16 u32 : TypeId} {n0 : Nat} {h : Hd} {s : St} {w : World} (p : PM t u16 u32 n0 h s w) : ∀ k, h.X k → n0 ≤ k := fun k hk => (p.lt (Hd.XB hk)).1
theorem new_c (AC : Option Addr) (cC : Nat) (C : List Int) (n : Nat) (AT : Option Addr) (cT : Nat) (T : List Int) (w : World) (hC : Lies w AC (C.map (.int .u16))) (hT : Lies w AT (T.map (.int .u32))) (hc : C.length ≤ cC) (hcm : cC ≤ maxLen)
    (f : Fit ⟨C, noughts n, T, 0, 0⟩) (lT : T.length ≤ 60000) :
    Calls Try.prog 9 #[.slice AC C.length cC, .int .i64 n, .slice AT T.length cT] w (NewEnd 59 ⟨C, noughts n, T, 0, 0⟩ w) := by
  have n1 : n ≤ 16000 := by have := f.wl; simp only [noughts_len] at this; exact this
  exact new_any AC cC C n n n (by rw [if_neg (by omega)]) (by split <;> omega) AT cT T w hC hT hc hcm f lT
theorem noughts_in (n : Nat) : ∀ z ∈ noughts n, 0 ≤ z ∧ z < 4294967296 := fun z hz => by
  have := List.eq_of_mem_replicate hz
  omega
def s0 : St := ⟨[], noughts 4, [9], 0, 0⟩
theorem fit0 : Fit s0 := ⟨nofun, noughts_in 4, by decide, by decide, by decide, by decide, by decide, by decide⟩
theorem f1 : storeE s0 536870916 = 0 := by decide +kernel
theorem f2 : lookV (storeS s0 536870916 7) 536870916 = (7, 0) := by decide +kernel
theorem f3 : lookV (loadS (storeS s0 536870916 7) 536870916) 1073741824 = (9, 0) := by decide +kernel
theorem f4 : (loadS (loadS (storeS s0 536870916 7) 536870916) 1073741824).b = 9 := by decide +kernel
theorem f5 : (loadS (loadS (storeS s0 536870916 7) 536870916) 1073741824).d = 1 := by decide +kernel
set_option maxHeartbeats 2000000 in
theorem lives (w : World) : Calls Try.prog 22 #[] w fun e w' => e = .returned (.bool true) ∧ Below w.heap.size w w' := by
  have hn := fun W hT => new_c none 0 [] 4 (some ⟨w.heap.size, 0, none⟩) 1 [9] W (Lies.nil _ _) hT (Nat.le_refl _) (by decide) fit0 (by decide)
  have hl : Lies (w.alloc (.cells #[.int .u32 9] 31)) (some ⟨w.heap.size, 0, none⟩) ([9].map (.int .u32)) := fun j u hj => ⟨_, rfl, by rw [Args.add_plain, Nat.zero_add, World.cell?_alloc_at _ _ _ _ rfl]; simpa using hj⟩
  have he : Ext w (w.alloc (.cells #[.int .u32 9] 31)) := Ext.alloc _ _
  have HN := Lib.hid hn; have HL := Lib.hid hl; have HE := Lib.hid he
  clear hn hl he
  go_enter Try.func22, Try.ntmps22
  go_wp2_with fail
  refine (HN.out _ HL.out).mono ?_
  rintro e w1 ⟨h, rfl, hp, hx⟩
  have HX := Lib.hid (HE.out.trans hx)
  have HP := Lib.hid hp
  have hlow : ∀ k, h.X k → w.heap.size ≤ k := fun k hk => Nat.le_trans HE.out.size (hp.X_low k hk)
  have HLOW := Lib.hid hlow
  clear hp hx HN HL hlow HE
  go_wp2_with fail
  refine (store _ h s0 _ 536870916 7 (by decide) HP.out).mono ?_
  rintro e w2 ⟨rfl, hp2, hu2⟩
  have HP2 := Lib.hid hp2; have HU2 := Lib.hid hu2
  rw [f1]
  clear hp2 hu2 HP
  go_wp2_with fail
  refine (load _ h _ _ 536870916 HP2.out).mono ?_
  rintro e w3 ⟨rfl, hp3, hu3⟩
  have HP3 := Lib.hid hp3; have HU3 := Lib.hid (HU2.out.trans hu3)
  rw [f2]
  clear hp3 hu3 HP2 HU2
  go_wp2_with fail
  refine (load _ h _ _ 1073741824 HP3.out).mono ?_
  rintro e w4 ⟨rfl, hp4, hu4⟩
  have HP4 := Lib.hid hp4; have HU4 := Lib.hid (HU3.out.trans hu4)
  rw [f3]
  clear hp4 hu4 HP3 HU3
  go_wp2_with fail
  refine (bus _ h _ _ HP4.out).mono ?_
  rintro e w5 ⟨rfl, rfl⟩
  rw [f4]
  go_wp2_with fail
  refine (drawn _ h _ _ HP4.out).mono ?_
  rintro e w5 ⟨rfl, rfl⟩
  rw [f5]
  go_wp2_with fail
  go_ret
  exact ⟨rfl, back HX.out HU4.out HLOW.out⟩
/-- Two copies, each in memory of its own. -/
def ShortEnd (C T : List Int) (w : World) (e : Ending) (w' : World) : Prop :=
  ∃ A1 c1 A3 c3, e = .returned (.tuple #[.slice A1 C.length c1, .slice A3 T.length c3]) ∧ C.length ≤ c1 ∧ c1 ≤ maxLen ∧ T.length ≤ c3 ∧ c3 ≤ maxLen ∧
    w'.ownsRow w.heap.size 38 1 (.slice A1 C.length c1) C.length (C.map (.int .u16)) ∧ w'.ownsRow w.heap.size 31 1 (.slice A3 T.length c3) T.length (T.map (.int .u32)) ∧
    (∀ k, A1 = some ⟨k, 0, none⟩ → A3 ≠ some ⟨k, 0, none⟩) ∧ Ext w w'
theorem lies_take {w : World} {A : Option Addr} {k : IntKind} {zs : List Int} (h : Lies w A (zs.map (.int k))) (n : Nat) : Lies w A ((zs.take n).map (.int k)) := fun j u hj => h j u (by
  rw [List.map_take, List.getElem?_take] at hj
  split at hj
  · exact hj
  · cases hj)
theorem lies_addr {w : World} {A : Option Addr} {k : IntKind} {zs : List Int} (h : Lies w A (zs.map (.int k))) (h0 : 0 < zs.length) : ∃ b o, A = some ⟨b, o, none⟩ := by
  cases zs with
  | nil => simp at h0
  | cons x r => obtain ⟨b, o, e, _⟩ := h.at_ (j := 0) (u := .int k x) rfl; exact ⟨b, o, e⟩
theorem short_end {C T : List Int} {w w1 w3 : World} {A1 A3 : Option Addr} {c1 c3 : Nat} (h1 : Ext w w1) (h3 : Ext w1 w3) (hc : C.length ≤ c1) (hm : c1 ≤ maxLen) (ht : T.length ≤ c3) (hm3 : c3 ≤ maxLen)
    (o1 : w1.ownsRow w.heap.size 38 1 (.slice A1 C.length c1) C.length (C.map (.int .u16))) (o3 : w3.ownsRow w1.heap.size 31 1 (.slice A3 T.length c3) T.length (T.map (.int .u32))) :
    ShortEnd C T w (.returned (.tuple #[.slice A1 C.length c1, .slice A3 T.length c3])) w3 := by
  refine ⟨A1, c1, A3, c3, rfl, hc, hm, ht, hm3, Ext.own h3 o1, own_low o3 h1.size, fun k e => ?_, h1.trans h3⟩
  rcases own_form o1 with ⟨h, _⟩ | ⟨g, h, _, hg⟩
  · rw [h] at e; cases e
  · rw [h] at e; cases e
    exact own_ne o3 (.inl hg)
theorem short_fin {C T : List Int} {w w1 w3 : World} {A1 A3 : Option Addr} {c1 c3 n1 n3 : Nat} (e1 : C.length = n1) (e3 : T.length = n3) (h1 : Ext w w1) (h3 : Ext w1 w3) (hc : n1 ≤ c1) (hm : c1 ≤ maxLen) (ht : n3 ≤ c3) (hm3 : c3 ≤ maxLen)
    (o1 : w1.ownsRow w.heap.size 38 1 (.slice A1 n1 c1) n1 (C.map (.int .u16))) (o3 : w3.ownsRow w1.heap.size 31 1 (.slice A3 n3 c3) n3 (T.map (.int .u32))) :
    ShortEnd C T w (.returned (.tuple #[.slice A1 n1 c1, .slice A3 n3 c3])) w3 := by
  subst e1 e3
  exact short_end h1 h3 hc hm ht hm3 o1 o3
set_option maxRecDepth 100000 in
set_option maxHeartbeats 4000000 in
theorem short_w (AC : Option Addr) (cC : Nat) (C : List Int) (AT : Option Addr) (cT : Nat) (T : List Int) (w : World) (hC : Lies w AC (C.map (.int .u16))) (hT : Lies w AT (T.map (.int .u32)))
    (hc : C.length ≤ cC) (hcm : cC ≤ maxLen) (ht : T.length ≤ cT) (htm : cT ≤ maxLen) :
    Calls Try.prog 8 #[.slice AC C.length cC, .slice AT T.length cT] w (ShortEnd (C.take 300) (T.take 100) w) := by
  obtain ⟨i0, hi, hz0, hz1, hz2⟩ := info_parts info16
  obtain ⟨j0, hj, hy0, hy1, hy2⟩ := info_parts info32
  have l1 : (C.take 300).length ≤ 300 := by rw [List.length_take]; omega
  have l3 : (T.take 100).length ≤ 100 := by rw [List.length_take]; omega
  have hC1 := (lies_take hC 300).below ((Below.refl w.heap.size w).alloc (Nat.le_refl _) (.cells #[] 38))
  have hT1 := lies_take hT 100
  have hca : 300 < C.length → ∃ b o, AC = some ⟨b, o, none⟩ := fun h => lies_addr hC (by omega)
  have hta : 100 < T.length → ∃ b o, AT = some ⟨b, o, none⟩ := fun h => lies_addr hT (by omega)
  have HI := Lib.hid hi; have HZ0 := Lib.hid hz0; have HZ1 := Lib.hid hz1; have HZ2 := Lib.hid hz2
  have HJ := Lib.hid hj; have HY0 := Lib.hid hy0; have HY1 := Lib.hid hy1; have HY2 := Lib.hid hy2
  have HC1 := Lib.hid hC1; have HT1 := Lib.hid hT1; have L1 := Lib.hid l1; have L3 := Lib.hid l3
  have e1 : C.length ≤ 300 → (C.take 300).length = C.length := fun h => by rw [List.length_take]; omega
  have e2 : 300 < C.length → (C.take 300).length = 300 := fun h => by rw [List.length_take]; omega
  have e3 : T.length ≤ 100 → (T.take 100).length = T.length := fun h => by rw [List.length_take]; omega
  have e4 : 100 < T.length → (T.take 100).length = 100 := fun h => by rw [List.length_take]; omega
  have HCM := Lib.hid hcm; have HTM := Lib.hid htm; have HCC := Lib.hid hc; have HTT := Lib.hid ht
  clear hi hz0 hz1 hz2 hj hy0 hy1 hy2 hC hT hC1 hT1 l1 l3
  have key : ∀ (A1 : Option Addr) (c1 : Nat) (w1 : World) (x : Nat), (w.alloc (.cells #[] 38)).grownBy w1 (some w.heap.size) → Lies (w1.alloc (.cells #[] 31)) AT ((T.take 100).map (.int .u32)) := fun A1 c1 w1 x h => (HT1.out.below (fresh_ext h)).below ((Below.refl w1.heap.size w1).alloc (Nat.le_refl _) _)
  have HK := Lib.hid key
  clear key
  by_cases hl : 300 < C.length
  · obtain ⟨b, o, rfl⟩ := hca hl
    have hl2 : (300 : Int) < (C.length : Int) := by omega
    have hl3 : (300 : Int) ≤ (cC : Int) := by omega
    have E2 := Lib.hid (e2 hl)
    clear hca e1 e2 hl hcm hc
    by_cases hk : 100 < T.length
    · obtain ⟨b', o', rfl⟩ := hta hk
      have hk2 : (100 : Int) < (T.length : Int) := by omega
      have hk3 : (100 : Int) ≤ (cT : Int) := by omega
      have E4 := Lib.hid (e4 hk)
      clear hta e3 e4 hk htm ht
      go_enter Try.func8, Try.ntmps8
      go_wp2_with (first | (at_builtin; refine wpList_fresh rfl (.tmp 16) (.tmp 17) 22 rfl w.heap.size 38 i0 (.int .u16 0) 1 2 Try.underlying22 HI.out HZ0.out HZ1.out HZ2.out rfl (by decide) _ 0 [] rfl (own_empty w (Nat.le_refl _) _ _) (some ⟨b, o, none⟩) 300 cC ((C.take 300).map (.int .u16)) rfl (by rw [List.length_map, E2.out, Nat.mul_one]) HC1.out (ints_one _ _) (by unfold maxLen; have := L1.out; have := E2.out; omega) (by have := L1.out; have := E2.out; omega) (by simp) ?_; intro A1 c1 w1 h1 h2 h3 h4; simp only [Nat.zero_add, List.nil_append] at h1 h3; have HO1 := Lib.hid h3; have HB1 := Lib.hid (fresh_ext h4); have HT2 := Lib.hid (HK.out A1 c1 w1 0 h4); have HQ1 := Lib.hid h1; have HR1 := Lib.hid h2; clear h1 h2 h3 h4; rw [Nat.zero_add]) | (at_builtin; refine wpList_fresh rfl (.tmp 19) (.tmp 20) 23 rfl w1.heap.size 31 j0 (.int .u32 0) 1 4 Try.underlying23 HJ.out HY0.out HY1.out HY2.out rfl (by decide) _ 0 [] rfl (own_empty w1 (Nat.le_refl _) _ _) (some ⟨b', o', none⟩) 100 cT ((T.take 100).map (.int .u32)) rfl (by rw [List.length_map, E4.out, Nat.mul_one]) HT2.out (ints_one _ _) (by unfold maxLen; have := L3.out; have := E4.out; omega) (by have := L3.out; have := E4.out; omega) (by simp) ?_; intro A3 c3 w3 h1 h2 h3 h4; simp only [Nat.zero_add, List.nil_append] at h1 h3; have HO3 := Lib.hid h3; have HB3 := Lib.hid (fresh_ext h4); have HQ3 := Lib.hid h1; have HR3 := Lib.hid h2; clear h1 h2 h3 h4; rw [Nat.zero_add]))
      go_ret2
      exact short_fin E2.out E4.out HB1.out HB3.out HQ1.out HR1.out HQ3.out HR3.out HO1.out HO3.out
    · have hk2 : decide ((100 : Int) < (T.length : Int)) = false := by simp; omega
      have hk4 : T.length ≤ 100 := by omega
      have E3 := Lib.hid (e3 hk4)
      clear hta e3 e4 hk htm ht
      go_enter Try.func8, Try.ntmps8
      go_wp2_with (first | (at_builtin; refine wpList_fresh rfl (.tmp 16) (.tmp 17) 22 rfl w.heap.size 38 i0 (.int .u16 0) 1 2 Try.underlying22 HI.out HZ0.out HZ1.out HZ2.out rfl (by decide) _ 0 [] rfl (own_empty w (Nat.le_refl _) _ _) (some ⟨b, o, none⟩) 300 cC ((C.take 300).map (.int .u16)) rfl (by rw [List.length_map, E2.out, Nat.mul_one]) HC1.out (ints_one _ _) (by unfold maxLen; have := L1.out; have := E2.out; omega) (by have := L1.out; have := E2.out; omega) (by simp) ?_; intro A1 c1 w1 h1 h2 h3 h4; simp only [Nat.zero_add, List.nil_append] at h1 h3; have HO1 := Lib.hid h3; have HB1 := Lib.hid (fresh_ext h4); have HT2 := Lib.hid (HK.out A1 c1 w1 0 h4); have HQ1 := Lib.hid h1; have HR1 := Lib.hid h2; clear h1 h2 h3 h4; rw [Nat.zero_add]) | (at_builtin; refine wpList_fresh rfl (.tmp 19) (.tmp 20) 23 rfl w1.heap.size 31 j0 (.int .u32 0) 1 4 Try.underlying23 HJ.out HY0.out HY1.out HY2.out rfl (by decide) _ 0 [] rfl (own_empty w1 (Nat.le_refl _) _ _) AT T.length cT ((T.take 100).map (.int .u32)) rfl (by rw [List.length_map, E3.out, Nat.mul_one]) HT2.out (ints_one _ _) (by unfold maxLen; have := L3.out; have := E3.out; omega) (by have := L3.out; have := E3.out; omega) (by simp) ?_; intro A3 c3 w3 h1 h2 h3 h4; simp only [Nat.zero_add, List.nil_append] at h1 h3; have HO3 := Lib.hid h3; have HB3 := Lib.hid (fresh_ext h4); have HQ3 := Lib.hid h1; have HR3 := Lib.hid h2; clear h1 h2 h3 h4; rw [Nat.zero_add]))
      go_ret2
      exact short_fin E2.out E3.out HB1.out HB3.out HQ1.out HR1.out HQ3.out HR3.out HO1.out HO3.out
  · have hl2 : decide ((300 : Int) < (C.length : Int)) = false := by simp; omega
    have hl4 : C.length ≤ 300 := by omega
    have E1 := Lib.hid (e1 hl4)
    clear hca e1 e2 hl hcm hc
    by_cases hk : 100 < T.length
    · obtain ⟨b', o', rfl⟩ := hta hk
      have hk2 : (100 : Int) < (T.length : Int) := by omega
      have hk3 : (100 : Int) ≤ (cT : Int) := by omega
      have E4 := Lib.hid (e4 hk)
      clear hta e3 e4 hk htm ht
      go_enter Try.func8, Try.ntmps8
      go_wp2_with (first | (at_builtin; refine wpList_fresh rfl (.tmp 16) (.tmp 17) 22 rfl w.heap.size 38 i0 (.int .u16 0) 1 2 Try.underlying22 HI.out HZ0.out HZ1.out HZ2.out rfl (by decide) _ 0 [] rfl (own_empty w (Nat.le_refl _) _ _) AC C.length cC ((C.take 300).map (.int .u16)) rfl (by rw [List.length_map, E1.out, Nat.mul_one]) HC1.out (ints_one _ _) (by unfold maxLen; have := L1.out; have := E1.out; omega) (by have := L1.out; have := E1.out; omega) (by simp) ?_; intro A1 c1 w1 h1 h2 h3 h4; simp only [Nat.zero_add, List.nil_append] at h1 h3; have HO1 := Lib.hid h3; have HB1 := Lib.hid (fresh_ext h4); have HT2 := Lib.hid (HK.out A1 c1 w1 0 h4); have HQ1 := Lib.hid h1; have HR1 := Lib.hid h2; clear h1 h2 h3 h4; rw [Nat.zero_add]) | (at_builtin; refine wpList_fresh rfl (.tmp 19) (.tmp 20) 23 rfl w1.heap.size 31 j0 (.int .u32 0) 1 4 Try.underlying23 HJ.out HY0.out HY1.out HY2.out rfl (by decide) _ 0 [] rfl (own_empty w1 (Nat.le_refl _) _ _) (some ⟨b', o', none⟩) 100 cT ((T.take 100).map (.int .u32)) rfl (by rw [List.length_map, E4.out, Nat.mul_one]) HT2.out (ints_one _ _) (by unfold maxLen; have := L3.out; have := E4.out; omega) (by have := L3.out; have := E4.out; omega) (by simp) ?_; intro A3 c3 w3 h1 h2 h3 h4; simp only [Nat.zero_add, List.nil_append] at h1 h3; have HO3 := Lib.hid h3; have HB3 := Lib.hid (fresh_ext h4); have HQ3 := Lib.hid h1; have HR3 := Lib.hid h2; clear h1 h2 h3 h4; rw [Nat.zero_add]))
      go_ret2
      exact short_fin E1.out E4.out HB1.out HB3.out HQ1.out HR1.out HQ3.out HR3.out HO1.out HO3.out
    · have hk2 : decide ((100 : Int) < (T.length : Int)) = false := by simp; omega
      have hk4 : T.length ≤ 100 := by omega
      have E3 := Lib.hid (e3 hk4)
      clear hta e3 e4 hk htm ht
      go_enter Try.func8, Try.ntmps8
      go_wp2_with (first | (at_builtin; refine wpList_fresh rfl (.tmp 16) (.tmp 17) 22 rfl w.heap.size 38 i0 (.int .u16 0) 1 2 Try.underlying22 HI.out HZ0.out HZ1.out HZ2.out rfl (by decide) _ 0 [] rfl (own_empty w (Nat.le_refl _) _ _) AC C.length cC ((C.take 300).map (.int .u16)) rfl (by rw [List.length_map, E1.out, Nat.mul_one]) HC1.out (ints_one _ _) (by unfold maxLen; have := L1.out; have := E1.out; omega) (by have := L1.out; have := E1.out; omega) (by simp) ?_; intro A1 c1 w1 h1 h2 h3 h4; simp only [Nat.zero_add, List.nil_append] at h1 h3; have HO1 := Lib.hid h3; have HB1 := Lib.hid (fresh_ext h4); have HT2 := Lib.hid (HK.out A1 c1 w1 0 h4); have HQ1 := Lib.hid h1; have HR1 := Lib.hid h2; clear h1 h2 h3 h4; rw [Nat.zero_add]) | (at_builtin; refine wpList_fresh rfl (.tmp 19) (.tmp 20) 23 rfl w1.heap.size 31 j0 (.int .u32 0) 1 4 Try.underlying23 HJ.out HY0.out HY1.out HY2.out rfl (by decide) _ 0 [] rfl (own_empty w1 (Nat.le_refl _) _ _) AT T.length cT ((T.take 100).map (.int .u32)) rfl (by rw [List.length_map, E3.out, Nat.mul_one]) HT2.out (ints_one _ _) (by unfold maxLen; have := L3.out; have := E3.out; omega) (by have := L3.out; have := E3.out; omega) (by simp) ?_; intro A3 c3 w3 h1 h2 h3 h4; simp only [Nat.zero_add, List.nil_append] at h1 h3; have HO3 := Lib.hid h3; have HB3 := Lib.hid (fresh_ext h4); have HQ3 := Lib.hid h1; have HR3 := Lib.hid h2; clear h1 h2 h3 h4; rw [Nat.zero_add]))
      go_ret2
      exact short_fin E1.out E3.out HB1.out HB3.out HQ1.out HR1.out HQ3.out HR3.out HO1.out HO3.out
end Go.Proofs.Ytldfnjjgacieoaa.Mm
