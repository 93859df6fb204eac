/- DERIVED. Contracts of the program's reader: begin, end. By an AI agent. -/
import Derived.Test.YtgcmbleinobneaaIpCell2
namespace Go.Proofs.Ytgcmbleinobneaa.Ip
open Go.ChangeShapes Go.WideShapes Go.ChangeAt Go.RowKit Args ImRef
set_option linter.unusedVariables false
def mrk : ByteArray := ⟨#[77, 83, 75, 49]⟩
theorem hasIn (p : ByteArray) (w : World) (h : p.size ≤ 4) : Calls Try.prog 41 #[.string ⟨#[77, 83, 75, 49]⟩, .string p] w fun e w' => e = .returned (.bool ([77, 83, 75, 49].take p.size == p.toList)) ∧ w = w' := by
  have he : ((⟨#[77, 83, 75, 49]⟩ : ByteArray).extract 0 p.size).toList = [77, 83, 75, 49].take p.size := by
    have h4 : p.size = 0 ∨ p.size = 1 ∨ p.size = 2 ∨ p.size = 3 ∨ p.size = 4 := by omega
    rcases h4 with h4 | h4 | h4 | h4 | h4 <;> rw [h4] <;> decide +kernel
  have HE := Lib.hid he
  clear he
  go_enter Try.func41, Try.ntmps41
  go_wp2_with fail
  go_ret
  exact ⟨by rw [← HE.out]; rfl, rfl⟩
/-- strings.HasPrefix of the mark. -/
theorem has (p : ByteArray) (w : World) (h : p.size ≤ 4) : Calls Try.prog 37 #[.string ⟨#[77, 83, 75, 49]⟩, .string p] w fun e w' => e = .returned (.bool ([77, 83, 75, 49].take p.size == p.toList)) ∧ w = w' := by
  have H := Lib.hid (hasIn p w h)
  go_enter Try.func37, Try.ntmps37
  go_wp2_with fail
  refine H.out.mono ?_
  rintro e w' ⟨rfl, rfl⟩
  go_wp2_with fail
  go_ret
  exact ⟨rfl, rfl⟩
theorem pre_eq (xs : List Int) (h : Byte xs) : ([77, 83, 75, 49].take (strOfNums xs).size == (strOfNums xs).toList) = decide (xs = msk1.take xs.length) := by
  have e1 : (strOfNums xs).toList = xs.map fun n => UInt8.ofNat n.toNat := by simp [strOfNums, ByteArray.toList_eq]
  have e2 : ([77, 83, 75, 49] : List UInt8) = msk1.map fun n => UInt8.ofNat n.toNat := by decide
  rw [strOfNums_size, e1, e2, ← List.map_take]
  rw [Bool.eq_iff_iff, beq_iff_eq, decide_eq_true_eq]
  constructor
  · intro he
    refine str_eq_iff xs _ h (fun z hz => ?_) ?_
    · have : z ∈ msk1 := List.mem_of_mem_take hz
      simp [msk1] at this
      omega
    · simp only [strOfNums, ByteArray.toList_eq]
      exact he.symm
  · intro he
    exact congrArg (List.map fun n : Int => UInt8.ofNat n.toNat) he.symm
def beginE (bs : List Int) : Int := if bs.take 4 ≠ msk1.take bs.length then 4 else if bs.length < 4 then 3 else 0
/-- What begin comes to. -/
def BeginR (n₀ : Nat) (w : World) (r : Nat) (bs : List Int) (en : Ending) (w' : World) : Prop :=
  (∃ v, en = .returned v) ∧ (∃ ys, Rdr n₀ w' r ys (beginE bs) ∧ (beginE bs = 0 → ys = bs.drop 4)) ∧ Upd (· = r) w w'
set_option maxHeartbeats 4000000 in
theorem begin_any (n₀ r : Nat) (bs : List Int) (w : World) (hR : Rdr n₀ w r bs 0) :
    Calls Try.prog 27 #[.pointer (some ⟨r, 0, none⟩)] w (BeginR n₀ w r bs) := by
  obtain ⟨hby, hreach, hnr, hrl⟩ := hR.facts
  obtain ⟨A, c, hb, hp, hn⟩ := id hR
  have c0 : w.cell? ⟨r, 0, none⟩ = some (.slice A bs.length c) := hb.cell 0
  obtain ⟨k, hk⟩ : ∃ k, k = min 4 bs.length := ⟨_, rfl⟩
  have hkl : (bs.take k).length = k := by rw [List.length_take]; omega
  have htk : bs.take k = bs.take 4 := by
    rw [hk]
    rcases Nat.le_total 4 bs.length with h | h
    · rw [Nat.min_eq_left h]
    · rw [Nat.min_eq_right h, List.take_of_length_le (Nat.le_refl _), List.take_of_length_le h]
  have hml : msk1.take k = msk1.take bs.length := by
    rw [hk]
    rcases Nat.le_total 4 bs.length with h | h
    · rw [Nat.min_eq_left h, List.take_of_length_le (show msk1.length ≤ bs.length by exact h)]; rfl
    · rw [Nat.min_eq_right h]
  have hLk : Lies w A ((bs.take k).map (.int .u8)) := fun j u hj => hp.lies j u (by
    rw [List.map_take, List.getElem?_take] at hj
    split at hj
    · exact hj
    · cases hj)
  have hsz : (strOfNums (bs.take k)).size ≤ 4 := by rw [strOfNums_size, hkl]; omega
  have hpe := pre_eq (bs.take k) (hby.take k)
  rw [hkl, hml] at hpe
  have hbt : (decide (bs.take k = msk1.take bs.length)) = decide (bs.take 4 = msk1.take bs.length) := by rw [htk]
  rw [hbt] at hpe
  have hh := fun w' => has (strOfNums (bs.take k)) w' hsz
  rw [hpe] at hh
  have hcv : ∀ q, (convert 28 9 (.slice A k c)).run Try.prog (w.drewN q) = .ok (.string (strOfNums (bs.take k))) (w.drewN q) := fun q =>
    run_string_of (w := w.drewN q) 28 5 Try.underlying28 Try.underlying5 A k c (bs.take k) hkl (hLk.drewN q) 9 Try.underlying9
  have hcap := hp.cap
  have hmax := hp.max
  unfold maxLen at hmax
  have HH := Lib.hid hh; have HR := Lib.hid hR
  have hkc : k ≤ c := by omega
  clear hpe hbt hh hb hp hLk hml htk hkl hsz hR hby
  generalize strOfNums (bs.take k) = s at *
  by_cases hpre : bs.take 4 = msk1.take bs.length
  · have HPR := Lib.hid hpre
    have hh := HH.out
    rw [decide_eq_true hpre] at hh
    have H2 := Lib.hid hh
    clear hh hpre
    by_cases hl : bs.length < 4
    · have hkk : k = bs.length := by omega
      subst hkk
      have HE : Hid (beginE bs = 3) := Lib.hid (by unfold beginE; rw [if_neg (by simp [HPR.out]), if_pos hl])
      clear hk
      go_enter Try.func27, Try.ntmps27
      go_wp2_with fail
      go_quiet (fail)
      have HR0 := Lib.hid (HR.out.upd ((Upd.refl (fun _ => False) w).drewN nq) (fun _ h => h.elim) (fun h => h))
      have HU0 := Lib.hid ((Upd.refl (· = r) w).drewN nq)
      have hcq := hcv nq
      generalize w.drewN nq = w0 at *
      clear hcv
      go_wp2_with fail
      refine (H2.out w0).mono ?_
      rintro en w' ⟨rfl, rfl⟩
      have HC := Lib.hid (cut_no n₀ r bs 0 4 w0 HR0.out (.inr (by omega)))
      go_wp2_with fail
      refine HC.out.mono ?_
      rintro en w1 ⟨rfl, h1, h2⟩
      have HR1 := Lib.hid h1; have HU1 := Lib.hid (HU0.out.trans h2)
      clear h1 h2
      go_wp2_with fail
      go_end0
      exact ⟨⟨_, rfl⟩, ⟨bs, by rw [HE.out]; exact HR1.out, fun h => absurd (HE.out.symm.trans h) (by decide)⟩, HU1.out⟩
    · have hkk : k = 4 := by omega
      subst hkk
      have hl4 : 4 ≤ bs.length := by omega
      have HE : Hid (beginE bs = 0) := Lib.hid (by unfold beginE; rw [if_neg (by simp [HPR.out]), if_neg hl])
      clear hk hl
      go_enter Try.func27, Try.ntmps27
      go_wp2_with fail
      go_quiet (fail)
      have HR0 := Lib.hid (HR.out.upd ((Upd.refl (fun _ => False) w).drewN nq) (fun _ h => h.elim) (fun h => h))
      have HU0 := Lib.hid ((Upd.refl (· = r) w).drewN nq)
      have hcq := hcv nq
      generalize w.drewN nq = w0 at *
      clear hcv
      go_wp2_with fail
      refine (H2.out w0).mono ?_
      rintro en w' ⟨rfl, rfl⟩
      have HC := Lib.hid (cut4 n₀ r bs w0 HR0.out hl4)
      go_wp2_with fail
      refine HC.out.mono ?_
      rintro en w1 ⟨A1, rfl, _, h1, h2⟩
      have HR1 := Lib.hid h1; have HU1 := Lib.hid (HU0.out.trans h2)
      clear h1 h2
      go_wp2_with fail
      go_end0
      exact ⟨⟨_, rfl⟩, ⟨bs.drop 4, by rw [HE.out]; exact HR1.out, fun _ => rfl⟩, HU1.out⟩
  · have HE : Hid (beginE bs = 4) := Lib.hid (by unfold beginE; rw [if_pos hpre])
    have hh := HH.out
    rw [decide_eq_false hpre] at hh
    have H2 := Lib.hid hh
    clear hh hpre HH
    by_cases hl : bs.length < 4
    · have hkk : k = bs.length := by omega
      subst hkk
      clear hk
      go_enter Try.func27, Try.ntmps27
      go_wp2_with fail
      go_quiet (fail)
      have HR0 := Lib.hid (HR.out.upd ((Upd.refl (fun _ => False) w).drewN nq) (fun _ h => h.elim) (fun h => h))
      have HU0 := Lib.hid ((Upd.refl (· = r) w).drewN nq)
      have hcq := hcv nq
      generalize w.drewN nq = w0 at *
      clear hcv
      go_wp2_with fail
      refine (H2.out w0).mono ?_
      rintro en w' ⟨rfl, rfl⟩
      have HF := Lib.hid (fail n₀ r bs 0 4 w0 HR0.out)
      go_wp2_with fail
      refine HF.out.mono ?_
      rintro en w1 ⟨⟨v, rfl⟩, h1, h2⟩
      have HC := Lib.hid (cut_no n₀ r bs 4 4 w1 h1 (.inl (by decide)))
      have HU1 := Lib.hid (HU0.out.trans h2)
      clear h1 h2
      go_wp2_with fail
      refine HC.out.mono ?_
      rintro en w2 ⟨rfl, h1, h2⟩
      have HR2 := Lib.hid h1; have HU2 := Lib.hid (HU1.out.trans h2)
      clear h1 h2
      go_wp2_with fail
      go_end0
      exact ⟨⟨_, rfl⟩, ⟨bs, by rw [HE.out]; exact HR2.out, fun h => absurd (HE.out.symm.trans h) (by decide)⟩, HU2.out⟩
    · have hkk : k = 4 := by omega
      subst hkk
      have hl4 : 4 ≤ bs.length := by omega
      clear hk hl
      go_enter Try.func27, Try.ntmps27
      go_wp2_with fail
      go_quiet (fail)
      have HR0 := Lib.hid (HR.out.upd ((Upd.refl (fun _ => False) w).drewN nq) (fun _ h => h.elim) (fun h => h))
      have HU0 := Lib.hid ((Upd.refl (· = r) w).drewN nq)
      have hcq := hcv nq
      generalize w.drewN nq = w0 at *
      clear hcv
      go_wp2_with fail
      refine (H2.out w0).mono ?_
      rintro en w' ⟨rfl, rfl⟩
      have HF := Lib.hid (fail n₀ r bs 0 4 w0 HR0.out)
      go_wp2_with fail
      refine HF.out.mono ?_
      rintro en w1 ⟨⟨v, rfl⟩, h1, h2⟩
      have HC := Lib.hid (cut_no n₀ r bs 4 4 w1 h1 (.inl (by decide)))
      have HU1 := Lib.hid (HU0.out.trans h2)
      clear h1 h2
      go_wp2_with fail
      refine HC.out.mono ?_
      rintro en w2 ⟨rfl, h1, h2⟩
      have HR2 := Lib.hid h1; have HU2 := Lib.hid (HU1.out.trans h2)
      clear h1 h2
      go_wp2_with fail
      go_end0
      exact ⟨⟨_, rfl⟩, ⟨bs, by rw [HE.out]; exact HR2.out, fun h => absurd (HE.out.symm.trans h) (by decide)⟩, HU2.out⟩
end Go.Proofs.Ytgcmbleinobneaa.Ip
