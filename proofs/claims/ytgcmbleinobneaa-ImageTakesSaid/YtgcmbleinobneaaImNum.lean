/- DERIVED. The contract of the reference's R.num. By an AI agent. -/
import Derived.Test.YtgcmbleinobneaaImSpec
import Derived.Test.YtgcmbleinobneaaUpd
namespace Go.Proofs.Ytgcmbleinobneaa.ImRef
open Go.ChangeShapes Go.WideShapes Go.ChangeAt Go.RowKit Args
set_option linter.unusedVariables false
/-- The reference's reader in block r: all bytes, where it is, whether they ended. -/
structure RR (n₀ : Nat) (w : World) (r : Nat) (A : Option Addr) (c : Nat) (bs : List Int) (at_ : Nat) (sh : Bool) : Prop where
  blk : Blk w r 67 #[.slice A bs.length c, .int .i64 at_, .bool sh]
  lies : Lies w A (bs.map (.int .u8))
  low : ∀ b o, A = some ⟨b, o, none⟩ → 0 < bs.length → b < n₀
  byte : Byte bs
  reach : bs.length ≤ 140737488351232
  cap : bs.length ≤ c
  max : c ≤ maxLen
  own : n₀ ≤ r
  at_le : at_ ≤ bs.length
theorem RR.upd {n₀ r c at_ : Nat} {w w' : World} {A : Option Addr} {bs : List Int} {sh : Bool} {X : Nat → Prop} (h : RR n₀ w r A c bs at_ sh) (hu : Upd X w w') (hX : ∀ k, X k → n₀ ≤ k) (hr : ¬ X r) : RR n₀ w' r A c bs at_ sh :=
  ⟨h.blk.upd hu hr, hu.lies h.lies fun b o e hp hx => by have h1 := h.low b o e (by simpa using hp); have := hX b hx; omega, h.low, h.byte, h.reach, h.cap, h.max, h.own, h.at_le⟩
theorem RR.set {n₀ r c at_ at' : Nat} {w w' : World} {A : Option Addr} {bs : List Int} {sh sh' : Bool} (h : RR n₀ w r A c bs at_ sh) (hu : Upd (· = r) w w') (hb : Blk w' r 67 #[.slice A bs.length c, .int .i64 at', .bool sh']) (ha : at' ≤ bs.length) : RR n₀ w' r A c bs at' sh' :=
  ⟨hb, hu.lies h.lies fun b o e hp hx => by have h1 := h.low b o e (by simpa using hp); have := h.own; omega, h.low, h.byte, h.reach, h.cap, h.max, h.own, ha⟩
theorem RR.lt {n₀ r c at_ : Nat} {w : World} {A : Option Addr} {bs : List Int} {sh : Bool} (h : RR n₀ w r A c bs at_ sh) : r < w.heap.size := h.blk.lt
set_option maxHeartbeats 2000000 in
theorem num_no (n₀ r : Nat) (A : Option Addr) (c : Nat) (bs : List Int) (at_ : Nat) (sh : Bool) (z : Int) (w : World) (hR : RR n₀ w r A c bs at_ sh) (hz0 : 0 ≤ z) (hz1 : z ≤ 255) (h : sh = true ∨ (bs.length : Int) - at_ < z) :
    Calls Try.prog 33 #[.pointer (some ⟨r, 0, none⟩), .int .i64 z] w fun en w' => en = .returned (.int .i64 0) ∧ RR n₀ w' r A c bs at_ true ∧ Upd (· = r) w w' := by
  have c0 : w.cell? ⟨r, 0, none⟩ = some (.slice A bs.length c) := hR.blk.cell 0
  have c1 : w.cell? ⟨r, 1, none⟩ = some (.int .i64 at_) := hR.blk.cell 1
  have c2 : w.cell? ⟨r, 2, none⟩ = some (.bool sh) := hR.blk.cell 2
  have f2 := hR.blk.frozen 2
  have hreach := hR.reach
  have hat := hR.at_le
  have HR := Lib.hid hR
  clear hR
  by_cases hl : (bs.length : Int) - at_ < z
  · clear h
    have hd : decide ((bs.length : Int) - at_ < z) = true := decide_eq_true hl
    go_enter Try.func33, Try.ntmps33
    go_wp2_with fail
    go_quiet (fail)
    have HB := Lib.hid ((show Blk (w.drewN nq) r _ _ from HR.out.blk).set 2 (.bool true))
    have HU := Lib.hid (((Upd.refl (· = r) w).drewN nq).setCell (p := ⟨r, 2, none⟩) (fun _ => rfl) (.bool true))
    have e2 : ((w.drewN nq).setCell ⟨r, 2, none⟩ (.bool true)).cell? ⟨r, 2, none⟩ = some (.bool true) := HB.out.cell 2
    go_wp2_with fail
    go_ret
    exact ⟨rfl, HR.out.set HU.out HB.out hat, HU.out⟩
  · have hs : sh = true := h.resolve_right hl
    subst hs
    have hd : decide ((bs.length : Int) - at_ < z) = false := decide_eq_false hl
    clear h
    go_enter Try.func33, Try.ntmps33
    go_wp2_with fail
    go_quiet (fail)
    go_wp2_with fail
    go_ret
    exact ⟨rfl, HR.out.upd ((Upd.refl (fun _ => False) w).drewN nq) (fun _ h => h.elim) (fun h => h), (Upd.refl _ w).drewN nq⟩
theorem numL_drop (ps : List Int) (j : Nat) (x : Int) (h : ps[j]? = some x) : numL (ps.drop j) = x + 256 * numL (ps.drop (j + 1)) := by
  obtain ⟨hl, rfl⟩ := List.getElem?_eq_some_iff.1 h
  rw [List.drop_eq_getElem_cons hl]; rfl
set_option maxHeartbeats 4000000 in
theorem num_yes (n₀ r : Nat) (A : Option Addr) (c : Nat) (bs : List Int) (at_ : Nat) (z : Int) (k : Nat) (w : World) (hR : RR n₀ w r A c bs at_ false) (hz : z = k) (hk : k ≤ 4) (h : at_ + k ≤ bs.length) :
    Calls Try.prog 33 #[.pointer (some ⟨r, 0, none⟩), .int .i64 z] w fun en w' => en = .returned (.int .i64 (numL ((bs.drop at_).take k))) ∧ RR n₀ w' r A c bs (at_ + k) false ∧ Upd (· = r) w w' := by
  have c0 : w.cell? ⟨r, 0, none⟩ = some (.slice A bs.length c) := hR.blk.cell 0
  have c1 : w.cell? ⟨r, 1, none⟩ = some (.int .i64 at_) := hR.blk.cell 1
  have c2 : w.cell? ⟨r, 2, none⟩ = some (.bool false) := hR.blk.cell 2
  have hreach := hR.reach
  obtain ⟨ps, hps⟩ : ∃ ps, ps = (bs.drop at_).take k := ⟨_, rfl⟩
  rw [← hps]
  have hpl : ps.length = k := by rw [hps, List.length_take, List.length_drop]; omega
  have hpb : Byte ps := by rw [hps]; exact (hR.byte.drop at_).take k
  have hpi : ∀ i x, ps[i]? = some x → bs[at_ + i]? = some x := fun i x hx => by
    rw [hps, List.getElem?_take] at hx
    split at hx
    · rw [List.getElem?_drop] at hx; exact hx
    · cases hx
  have HPL := Lib.hid hpl; have HPB := Lib.hid hpb; have HPI := Lib.hid hpi
  have HR := Lib.hid hR
  clear hR hps hpl hpb hpi
  subst hz
  have hd : decide ((bs.length : Int) - at_ < k) = false := decide_eq_false (by omega)
  go_enter Try.func33, Try.ntmps33
  go_wp2_with fail
  go_quiet (fail)
  have HU0 := Lib.hid ((Upd.refl (fun _ => False) w).drewN nq)
  go_wp2_with fail
  go_loopw [5, 6] (fun vn vi wr => ∃ (j : Nat) (n : Int), j ≤ k ∧ vi = .int .i64 ((j : Int) - 1) ∧ vn = .int .i64 n ∧ 0 ≤ n ∧ n < 4294967296 ∧ Hid (n = numL (ps.drop j) ∧ Upd (fun _ => False) w wr)) (fun _ vi _ => (intOf vi + 1).toNat)
  case atStart =>
    refine ⟨k, 0, Nat.le_refl _, rfl, rfl, by decide, by decide, Lib.hid ⟨?_, HU0.out⟩⟩
    rw [List.drop_eq_nil_of_le (by rw [HPL.out]; exact Nat.le_refl _)]; rfl
  case round =>
    obtain ⟨j, n, hj, rfl, rfl, n0, n1, HH⟩ := hrel
    have hRR := HR.out.upd HH.out.2 (fun _ h => h.elim) (fun h => h)
    have d0 : wr.cell? ⟨r, 0, none⟩ = some (.slice A bs.length c) := hRR.blk.cell 0
    have d1 : wr.cell? ⟨r, 1, none⟩ = some (.int .i64 at_) := hRR.blk.cell 1
    by_cases hlt : 0 < j
    · obtain ⟨i, rfl⟩ : ∃ i, j = i + 1 := ⟨j - 1, by omega⟩
      obtain ⟨x, hx⟩ : ∃ x, ps[i]? = some x := ⟨_, List.getElem?_eq_getElem (by rw [HPL.out]; omega)⟩
      obtain ⟨x0, x1⟩ := HPB.out x (List.mem_of_getElem? hx)
      have hb := HPI.out i x hx
      have f1 : (bs.map (Value.int .u8))[at_ + i]? = some (.int .u8 x) := by simp [hb]
      obtain ⟨b, o, rfl, _, hcell⟩ := hRR.lies.at_ f1
      have e1 := hcell _ _ f1
      have hnum := numL_drop ps i x hx
      have hbd := numL_bd (ps.drop i) (HPB.out.drop i)
      rw [List.length_drop, HPL.out] at hbd
      have hsum : n * 256 + x = numL (ps.drop i) := by rw [hnum, HH.out.1]; omega
      have hlt4 : numL (ps.drop i) < 4294967296 := by
        have h4 : k - i ≤ 4 := by omega
        have : (256 : Int) ^ (k - i) ≤ 4294967296 := by
          have : k - i = 0 ∨ k - i = 1 ∨ k - i = 2 ∨ k - i = 3 ∨ k - i = 4 := by omega
          rcases this with h | h | h | h | h <;> rw [h] <;> decide
        omega
      have HSU := Lib.hid hsum; have HBD := Lib.hid (And.intro hbd.1 hlt4)
      have hsub : ((i + 1 : Nat) : Int) - 1 = i := by omega
      rw [hsub]
      clear hRR hx hb f1 hcell hnum hbd hsum hlt4
      go_wp2_with fail
      go_quiet (fail)
      go_wp2_with fail
      go_roundw
      case rel => exact ⟨i, _, by omega, rfl, rfl, by rw [HSU.out]; exact HBD.out.1, by rw [HSU.out]; exact HBD.out.2, Lib.hid ⟨HSU.out, HH.out.2.drewN nq⟩⟩
      case measure => simp [intOf]
    · have hj0 : j = 0 := by omega
      have hn : n = numL ps := by rw [HH.out.1, hj0]; rfl
      have HN := Lib.hid hn
      have f1 := hRR.blk.frozen 1
      have HB := Lib.hid (hRR.blk.set 1 (.int .i64 ((at_ + k : Nat) : Int)))
      have hcast : (at_ : Int) + k = ((at_ + k : Nat) : Int) := by omega
      have HCA := Lib.hid hcast
      have HRR := Lib.hid hRR
      clear hj0 hn hRR hcast
      go_wp2_with fail
      go_ret
      have hu : Upd (· = r) wr (wr.setCell ⟨r, 1, none⟩ (.int .i64 ((at_ : Int) + k))) := (Upd.refl (· = r) wr).setCell (p := ⟨r, 1, none⟩) (fun _ => rfl) _
      refine ⟨by rw [← HN.out]; rfl, ?_, (HH.out.2.mono fun _ h => h.elim).trans hu⟩
      rw [HCA.out] at hu ⊢
      exact HRR.out.set hu HB.out h
end Go.Proofs.Ytgcmbleinobneaa.ImRef
