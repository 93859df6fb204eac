/- DERIVED. The contract of the program's Find; the walk of ImageFinds. By an AI agent. -/
import Derived.Test.YtgcmbleinobneaaIpLive
namespace Go.Proofs.Ytgcmbleinobneaa.Ip
open Go.ChangeShapes Go.WideShapes Go.ChangeAt Go.RowKit Args ImRef
set_option linter.unusedVariables false
def hit (s : ByteArray) (c : TI) : Bool := c.s.toList == s.toList
theorem first_hit (s : ByteArray) (l : List TI) : (∃ (k : Nat) (c : TI), l[k]? = some c ∧ hit s c = true ∧ ∀ (j : Nat) (d : TI), j < k → l[j]? = some d → hit s d = false) ∨ (∀ (j : Nat) (d : TI), l[j]? = some d → hit s d = false) := by
  induction l with
  | nil => exact .inr fun j d h => by simp at h
  | cons x l ih =>
    cases hx : hit s x with
    | true => exact .inl ⟨0, x, rfl, hx, fun j d h => absurd h (by omega)⟩
    | false =>
      rcases ih with ⟨k, c, h1, h2, h3⟩ | h
      · refine .inl ⟨k + 1, c, h1, h2, fun j d hj hd => ?_⟩
        cases j with
        | zero => simp at hd; subst hd; exact hx
        | succ j => exact h3 j d (by omega) (by simpa using hd)
      · refine .inr fun j d hd => ?_
        cases j with
        | zero => simp at hd; subst hd; exact hx
        | succ j => exact h j d (by simpa using hd)
set_option maxHeartbeats 1000000 in
theorem find_yes (A : Option Addr) (cap : Nat) (l : List TI) (nm : ByteArray) (w : World) (hR : Lies w A (l.flatMap TI.cells)) (hl : l.length ≤ 140737488351232) (k0 : Nat) (c0 : TI) (h1 : l[k0]? = some c0) (h2 : hit nm c0 = true) (h3 : ∀ (j : Nat) (d : TI), j < k0 → l[j]? = some d → hit nm d = false) :
    Calls Try.prog 18 #[.slice A l.length cap, .string nm] w fun e w' => e = .returned (.tuple #[.int .i64 c0.n, .bool true]) ∧ Below w.heap.size w w' := by
  have hk0 : k0 < l.length := (List.getElem?_eq_some_iff.1 h1).1
  have HR := Lib.hid hR; have H1 := Lib.hid h1; have H2 := Lib.hid h2; have H3 := Lib.hid h3
  clear hR h1 h2 h3
  go_enter Try.func18, Try.ntmps18
  go_wp2_with fail
  go_loopw [10] (fun vi wr => ∃ k : Nat, k ≤ k0 ∧ vi = .int .i64 k ∧ Hid (Below w.heap.size w wr)) (fun vi _ => k0 - (intOf vi).toNat)
  case atStart => exact ⟨0, by omega, rfl, Lib.hid (Below.refl _ _)⟩
  case round =>
    obtain ⟨k, hk, rfl, HH⟩ := hrel
    have hlt : k < l.length := by omega
    obtain ⟨c, hc⟩ : ∃ c, l[k]? = some c := ⟨_, List.getElem?_eq_getElem hlt⟩
    obtain ⟨f1, f2⟩ := flat2 l k c hc
    obtain ⟨b, o, rfl, hb, hcell⟩ := (HR.out.below HH.out).at_ f1
    have c1 := hcell _ _ f1
    have c2 : wr.cell? ⟨b, o + k * 2 + 1, none⟩ = some (.int .i64 c.n) := by rw [Nat.add_assoc]; exact hcell _ _ f2
    have HC := Lib.hid hc
    clear hc f1 f2 hcell
    by_cases he : k < k0
    · have hq : (c.s.toList == nm.toList) = false := H3.out k c he HC.out
      go_wp2_with fail
      go_roundw
      case rel => exact ⟨k + 1, by omega, by go_num, Lib.hid (HH.out.alloc HH.out.size _)⟩
      case measure => simp [intOf]; omega
    · have hkk : k = k0 := by omega
      have hcc : c = c0 := Option.some.inj (HC.out.symm.trans (hkk ▸ H1.out))
      have hq : (c.s.toList == nm.toList) = true := hcc ▸ H2.out
      have HCC := Lib.hid hcc
      clear hcc hkk
      go_wp2_with fail
      go_ret2
      exact ⟨by rw [HCC.out]; rfl, HH.out.alloc HH.out.size _⟩
set_option maxHeartbeats 1000000 in
theorem find_no (A : Option Addr) (cap : Nat) (l : List TI) (nm : ByteArray) (w : World) (hR : Lies w A (l.flatMap TI.cells)) (hl : l.length ≤ 140737488351232) (h3 : ∀ (j : Nat) (d : TI), l[j]? = some d → hit nm d = false) :
    Calls Try.prog 18 #[.slice A l.length cap, .string nm] w fun e w' => e = .returned (.tuple #[.int .i64 0, .bool false]) ∧ Below w.heap.size w w' := by
  have HR := Lib.hid hR; have H3 := Lib.hid h3
  clear hR h3
  go_enter Try.func18, Try.ntmps18
  go_wp2_with fail
  go_loopw [10] (fun vi wr => ∃ k : Nat, k ≤ l.length ∧ vi = .int .i64 k ∧ Hid (Below w.heap.size w wr)) (fun vi _ => l.length - (intOf vi).toNat)
  case atStart => exact ⟨0, by omega, rfl, Lib.hid (Below.refl _ _)⟩
  case round =>
    obtain ⟨k, hk, rfl, HH⟩ := hrel
    by_cases hlt : k < l.length
    · obtain ⟨c, hc⟩ : ∃ c, l[k]? = some c := ⟨_, List.getElem?_eq_getElem hlt⟩
      obtain ⟨f1, f2⟩ := flat2 l k c hc
      obtain ⟨b, o, rfl, hb, hcell⟩ := (HR.out.below HH.out).at_ f1
      have c1 := hcell _ _ f1
      have c2 : wr.cell? ⟨b, o + k * 2 + 1, none⟩ = some (.int .i64 c.n) := by rw [Nat.add_assoc]; exact hcell _ _ f2
      have hq : (c.s.toList == nm.toList) = false := H3.out k c hc
      clear hc f1 f2 hcell
      go_wp2_with fail
      go_roundw
      case rel => exact ⟨k + 1, by omega, by go_num, Lib.hid (HH.out.alloc HH.out.size _)⟩
      case measure => simp [intOf]; omega
    · go_wp2_with fail
      go_ret2
      exact ⟨rfl, HH.out⟩
theorem infoC : (Try.prog.info? 41).map (fun i => (i.zero, i.size, i.bytes)) = some (some (.agg #[.string ⟨#[]⟩, .int .i64 0]), 2, 24) := by kernel_rfl
theorem cells_len (l : List TI) : (l.flatMap TI.cells).length = l.length * 2 := by
  induction l with
  | nil => rfl
  | cons d l ih => rw [List.flatMap_cons, List.length_append, ih]; simp [TI.cells]; omega
theorem cells_one (l : List TI) : ∀ u ∈ l.flatMap TI.cells, u.oneCell' = true := fun u hu => by
  obtain ⟨c, _, hc⟩ := List.mem_flatMap.1 hu
  simp [TI.cells] at hc
  rcases hc with rfl | rfl <;> rfl
end Go.Proofs.Ytgcmbleinobneaa.Ip
namespace Go.Proofs.Ytgcmbleinobneaa.imageFinds
open Go.ChangeShapes Go.WideShapes Go.ChangeAt Go.RowKit Args ImRef Ip
set_option linter.unusedVariables false
set_option maxHeartbeats 2000000 in
theorem walk (W : World) (v : Value) (l : List TI) (hv : TIs W v l) (nm : ByteArray) (hnm : nm.size ≤ 140737488351232) :
    Calls Try.prog 5 #[v, .string nm] W fun e w' => e = .returned (.bool true) ∧ Below W.heap.size W w' := by
  obtain ⟨A, cap, rfl, hlc, hcm, hL⟩ := hv.ex
  have hr := hv.reach
  obtain ⟨i0, hi, hz0, hz1, hz2⟩ := info_parts infoC
  have HL := Lib.hid hL
  have HLA := Lib.hid (hL.below ((Below.refl W.heap.size W).alloc (Nat.le_refl _) (.cells #[] 41)))
  have HI := Lib.hid hi; have HZ0 := Lib.hid hz0; have HZ1 := Lib.hid hz1; have HZ2 := Lib.hid hz2
  have hl1 : l.length ≤ 140737488351232 := by omega
  clear hL hi hz0 hz1 hz2 hv
  rcases first_hit nm l with ⟨k0, c0, h1, h2, h3⟩ | h3
  · have hk0 : k0 < l.length := (List.getElem?_eq_some_iff.1 h1).1
    have H1 := Lib.hid h1; have H2 := Lib.hid h2; have H3 := Lib.hid h3
    clear h1 h2 h3
    go_enter Try.func5, Try.ntmps5
    go_wp2_with ((first
      | (at_builtin; refine wpList_fresh rfl _ _ 23 rfl W.heap.size 41 i0 (.agg #[.string ⟨#[]⟩, .int .i64 0]) 2 24 Try.underlying23 HI.out HZ0.out HZ1.out HZ2.out rfl (by decide) _ 0 [] rfl (own_empty W (Nat.le_refl _) _ _) A l.length cap (l.flatMap TI.cells) rfl (cells_len l) HLA.out (cells_one l) (by unfold maxLen; omega) (by omega) (by simp) ?_; intro A1 c1 w1 h1 h2 h3 h4; simp only [Nat.zero_add, List.nil_append] at h1 h3; have HO := Lib.hid (lies_own h3); have HB := Lib.hid (grown_new (Below.refl W.heap.size W) h4); clear h1 h2 h3 h4; rw [Nat.zero_add])
      | (go_at_call 18; (with_reducible refine (find_yes A1 c1 l nm w1 HO.out hl1 k0 c0 H1.out H2.out H3.out).mono ?_); rintro e w2 ⟨rfl, hb2⟩; have HB2 := Lib.hid (HB.out.trans (hb2.mono HB.out.size)); clear hb2)))
    go_loop [7] (fun vi => ∃ k : Nat, k ≤ k0 ∧ vi = .int .i64 k) (fun vi => k0 - (intOf vi).toNat)
    case atStart => exact ⟨0, by omega, rfl⟩
    case round =>
      obtain ⟨k, hk, rfl⟩ := hrel
      have hlt : k < l.length := by omega
      obtain ⟨c, hc⟩ : ∃ c, l[k]? = some c := ⟨_, List.getElem?_eq_getElem hlt⟩
      obtain ⟨f1, f2⟩ := flat2 l k c hc
      obtain ⟨b, o, rfl, hb, hcell⟩ := (HL.out.below HB2.out).at_ f1
      have c1 := hcell _ _ f1
      have c2 : w2.cell? ⟨b, o + k * 2 + 1, none⟩ = some (.int .i64 c.n) := by rw [Nat.add_assoc]; exact hcell _ _ f2
      have HC := Lib.hid hc
      clear hc f1 f2 hcell
      by_cases he : k < k0
      · have hq : (c.s.toList == nm.toList) = false := H3.out k c he HC.out
        go_wp2_with fail
        go_round
        case rel => exact ⟨k + 1, by omega, by go_num⟩
        case measure => simp [intOf]; omega
      · have hkk : k = k0 := by omega
        obtain rfl : c0 = c := (Option.some.inj (HC.out.symm.trans (hkk ▸ H1.out))).symm
        have hq : (c0.s.toList == nm.toList) = true := H2.out
        clear hkk
        go_wp2_with (go_at_call 9; (with_reducible refine (lives _).mono ?_); rintro e w3 ⟨rfl, hb3⟩; have HB3 := Lib.hid (HB2.out.trans (hb3.mono HB2.out.size)); clear hb3)
        go_ret
        exact ⟨rfl, HB3.out⟩
  · have H3 := Lib.hid h3
    clear h3
    go_enter Try.func5, Try.ntmps5
    go_wp2_with ((first
      | (at_builtin; refine wpList_fresh rfl _ _ 23 rfl W.heap.size 41 i0 (.agg #[.string ⟨#[]⟩, .int .i64 0]) 2 24 Try.underlying23 HI.out HZ0.out HZ1.out HZ2.out rfl (by decide) _ 0 [] rfl (own_empty W (Nat.le_refl _) _ _) A l.length cap (l.flatMap TI.cells) rfl (cells_len l) HLA.out (cells_one l) (by unfold maxLen; omega) (by omega) (by simp) ?_; intro A1 c1 w1 h1 h2 h3 h4; simp only [Nat.zero_add, List.nil_append] at h1 h3; have HO := Lib.hid (lies_own h3); have HB := Lib.hid (grown_new (Below.refl W.heap.size W) h4); clear h1 h2 h3 h4; rw [Nat.zero_add])
      | (go_at_call 18; (with_reducible refine (find_no A1 c1 l nm w1 HO.out hl1 H3.out).mono ?_); rintro e w2 ⟨rfl, hb2⟩; have HB2 := Lib.hid (HB.out.trans (hb2.mono HB.out.size)); clear hb2)))
    go_loop [7] (fun vi => ∃ k : Nat, k ≤ l.length ∧ vi = .int .i64 k) (fun vi => l.length - (intOf vi).toNat)
    case atStart => exact ⟨0, by omega, rfl⟩
    case round =>
      obtain ⟨k, hk, rfl⟩ := hrel
      by_cases hlt : k < l.length
      · obtain ⟨c, hc⟩ : ∃ c, l[k]? = some c := ⟨_, List.getElem?_eq_getElem hlt⟩
        obtain ⟨f1, f2⟩ := flat2 l k c hc
        obtain ⟨b, o, rfl, hb, hcell⟩ := (HL.out.below HB2.out).at_ f1
        have c1 := hcell _ _ f1
        have hq : (c.s.toList == nm.toList) = false := H3.out k c hc
        clear hc f1 f2 hcell
        go_wp2_with fail
        go_round
        case rel => exact ⟨k + 1, by omega, by go_num⟩
        case measure => simp [intOf]; omega
      · go_wp2_with (go_at_call 9; (with_reducible refine (lives _).mono ?_); rintro e w3 ⟨rfl, hb3⟩; have HB3 := Lib.hid (HB2.out.trans (hb3.mono HB2.out.size)); clear hb3)
        go_ret
        exact ⟨rfl, HB3.out⟩
end Go.Proofs.Ytgcmbleinobneaa.imageFinds
