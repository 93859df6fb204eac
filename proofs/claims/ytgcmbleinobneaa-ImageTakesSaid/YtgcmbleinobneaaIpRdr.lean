/- DERIVED. Contracts of the program's reader: fail, cut. By an AI agent. -/
import Derived.Test.YtgcmbleinobneaaIpWord2
import Derived.Test.YtgcmbleinobneaaUpd
namespace Go.Proofs.Ytgcmbleinobneaa.Ip
open Go.ChangeShapes Go.WideShapes Go.ChangeAt Go.RowKit Args ImRef
set_option linter.unusedVariables false
/-- A slice of bytes that lie below n₀. -/
structure Pc (n₀ : Nat) (w : World) (A : Option Addr) (c : Nat) (ps : List Int) : Prop where
  cap : ps.length ≤ c
  max : c ≤ maxLen
  nz : A = none → c = 0
  pl : ∀ a, A = some a → ∃ b o, a = ⟨b, o, none⟩
  lies : Lies w A (ps.map (.int .u8))
  low : ∀ b o, A = some ⟨b, o, none⟩ → 0 < ps.length → b < n₀
  byte : ∀ z ∈ ps, 0 ≤ z ∧ z < 256
  reach : ps.length ≤ 140737488351232
/-- A reader in block r: what is left, its error. -/
def Rdr (n₀ : Nat) (w : World) (r : Nat) (ys : List Int) (e : Int) : Prop := ∃ A c, Blk w r 56 #[.slice A ys.length c, .int .i64 e] ∧ Pc n₀ w A c ys ∧ n₀ ≤ r
section
variable {n₀ r c : Nat} {w w' : World} {A : Option Addr} {ys ps : List Int} {e : Int} {X : Nat → Prop}
theorem Pc.upd (h : Pc n₀ w A c ps) (hu : Upd X w w') (hX : ∀ k, X k → n₀ ≤ k) : Pc n₀ w' A c ps :=
  ⟨h.cap, h.max, h.nz, h.pl, hu.lies h.lies fun b o e hp hx => by have h1 := h.low b o e (by simpa using hp); have := hX b hx; omega, h.low, h.byte, h.reach⟩
theorem Rdr.upd (h : Rdr n₀ w r ys e) (hu : Upd X w w') (hX : ∀ k, X k → n₀ ≤ k) (hr : ¬ X r) : Rdr n₀ w' r ys e := by
  obtain ⟨A, c, hb, hp, hn⟩ := h
  exact ⟨A, c, hb.upd hu hr, hp.upd hu hX, hn⟩
theorem Pc.none_ : Pc n₀ w none 0 [] := ⟨Nat.le_refl _, by decide, fun _ => rfl, nofun, Lies.nil _ _, fun b o h => (by cases h), fun z h => (by cases h), by decide⟩
theorem Pc.take (h : Pc n₀ w A c ps) (n : Nat) (hn : n ≤ ps.length) : Pc n₀ w A n (ps.take n) :=
  ⟨by rw [List.length_take]; omega, by have := h.cap; have := h.max; omega, fun hA => by have := h.nz hA; have := h.cap; omega, h.pl, fun j u hj => h.lies j u (by
    rw [List.map_take, List.getElem?_take] at hj
    split at hj
    · exact hj
    · cases hj), fun b o e hp => h.low b o e (by rw [List.length_take] at hp; omega), fun z hz => h.byte z (List.mem_of_mem_take hz), by rw [List.length_take]; have := h.reach; omega⟩
theorem Pc.addr (h : Pc n₀ w A c ps) (hp : 0 < ps.length) : ∃ b o, A = some ⟨b, o, none⟩ := by
  cases ps with
  | nil => simp at hp
  | cons x r => obtain ⟨b, o, e, _⟩ := h.lies.at_ (j := 0) (u := .int .u8 x) rfl; exact ⟨b, o, e⟩
theorem Pc.drop {b o : Nat} (h : Pc n₀ w (some ⟨b, o, none⟩) c ps) (n : Nat) (hn : n ≤ ps.length) : Pc n₀ w (some ⟨b, o + n, none⟩) (c - n) (ps.drop n) :=
  ⟨by rw [List.length_drop]; have := h.cap; omega, by have := h.max; omega, nofun, fun a e => by cases e; exact ⟨b, o + n, rfl⟩, fun j u hj => by
    have h1 : (ps.map (Value.int .u8))[n + j]? = some u := by rw [List.map_drop, List.getElem?_drop] at hj; exact hj
    obtain ⟨a, ha, hc⟩ := h.lies _ _ h1
    cases ha
    refine ⟨_, rfl, ?_⟩
    rw [Args.add_plain] at hc ⊢
    rw [Nat.add_assoc]; exact hc, fun b' o' e hp => by
      cases e
      exact h.low b o rfl (by rw [List.length_drop] at hp; omega), fun z hz => h.byte z (List.mem_of_mem_drop hz), by rw [List.length_drop]; have := h.reach; omega⟩
theorem Pc.nil_ (h : Pc n₀ w A c ps) (c' : Nat) (hc : c' ≤ maxLen) (hz : A = none → c' = 0) : Pc n₀ w A c' [] := ⟨Nat.zero_le _, hc, hz, h.pl, Lies.nil _ _, fun b o e hp => absurd hp (by simp), fun z h => (by cases h), by decide⟩
end
def failE (e k : Int) : Int := if e = 0 then k else e
set_option maxHeartbeats 1000000 in
theorem fail (n₀ r : Nat) (ys : List Int) (e k : Int) (w : World) (hR : Rdr n₀ w r ys e) :
    Calls Try.prog 38 #[.pointer (some ⟨r, 0, none⟩), .int .i64 k] w fun en w' => (∃ v, en = .returned v) ∧ Rdr n₀ w' r ys (failE e k) ∧ Upd (· = r) w w' := by
  obtain ⟨A, c, hb, hp, hn⟩ := hR
  have hc1 : w.cell? ⟨r, 1, none⟩ = some (.int .i64 e) := hb.cell 1
  have hf1 := hb.frozen 1
  have HB := Lib.hid hb; have HP := Lib.hid hp
  clear hb hp
  by_cases h0 : e = 0
  · have HE := Lib.hid (show failE e k = k by unfold failE; rw [if_pos h0])
    have he : (e == 0) = true := by simp [h0]
    clear h0
    go_enter Try.func38, Try.ntmps38
    go_wp2_with fail
    go_end0
    have hu : Upd (· = r) w (w.setCell ⟨r, 1, none⟩ (.int .i64 k)) := (Upd.refl (· = r) w).setCell (p := ⟨r, 1, none⟩) (fun _ => rfl) _
    have hb2 := HB.out.set 1 (.int .i64 k)
    refine ⟨⟨_, rfl⟩, ⟨A, c, ?_, ⟨HP.out.cap, HP.out.max, HP.out.nz, HP.out.pl, ?_, HP.out.low, HP.out.byte, HP.out.reach⟩, hn⟩, hu⟩
    · rw [HE.out]; exact hb2
    · exact hu.lies HP.out.lies fun b o e hq => by have := HP.out.low b o e (by simpa using hq); omega
  · have HE := Lib.hid (show failE e k = e by unfold failE; rw [if_neg h0])
    have he : (e == 0) = false := by simp [h0]
    clear h0
    go_enter Try.func38, Try.ntmps38
    go_wp2_with fail
    go_end0
    exact ⟨⟨_, rfl⟩, ⟨A, c, by rw [HE.out]; exact HB.out, HP.out, hn⟩, Upd.refl _ _⟩
theorem own_pl {w : World} {base : Nat} {e : TypeId} {size n c : Nat} {A : Option Addr} {xs : List Value} (h : w.ownsRow base e size (.slice A n c) n xs) : ∀ a, A = some a → ∃ b o, a = ⟨b, o, none⟩ := fun a hA => by
  subst hA
  rcases h.2 with ⟨e1, _⟩ | ⟨g, cap, cur, e1, _⟩
  · cases e1
  · injection e1 with e1; injection e1 with e1; exact ⟨g, 0, e1⟩
theorem own_nz {w : World} {base : Nat} {e : TypeId} {size n c : Nat} {A : Option Addr} {xs : List Value} (h : w.ownsRow base e size (.slice A n c) n xs) (hA : A = none) : c = 0 := by
  subst hA
  rcases h.2 with ⟨e1, _⟩ | ⟨g, cap, cur, e1, _⟩
  · injection e1
  · cases e1
/-- What a cut that goes hands back. -/
def CutYes (n₀ : Nat) (w : World) (r : Nat) (ys : List Int) (n : Int) (en : Ending) (w' : World) : Prop :=
  ∃ A', en = .returned (.slice A' n.toNat n.toNat) ∧ Pc n₀ w' A' n.toNat (ys.take n.toNat) ∧ Rdr n₀ w' r (ys.drop n.toNat) 0 ∧ Upd (· = r) w w'
theorem cut_end {n₀ r : Nat} {ys : List Int} {n : Int} {w : World} {A A2 : Option Addr} {c c2 : Nat} (hb : Blk w r 56 #[.slice A ys.length c, .int .i64 0]) (hp : Pc n₀ w A c ys) (hn : n₀ ≤ r) (n0 : 0 ≤ n) (nl : n ≤ ys.length)
    (l2 : Nat) (hl2 : l2 = ys.length - n.toNat) (h2 : Pc n₀ w A2 c2 (ys.drop n.toNat)) : CutYes n₀ w r ys n (.returned (.slice A n.toNat n.toNat)) (w.setCell ⟨r, 0, none⟩ (.slice A2 l2 c2)) := by
  have hu : Upd (· = r) w (w.setCell ⟨r, 0, none⟩ (.slice A2 l2 c2)) := (Upd.refl (· = r) w).setCell (p := ⟨r, 0, none⟩) (fun _ => rfl) _
  have hb2 := hb.set 0 (.slice A2 l2 c2)
  subst hl2
  refine ⟨A, rfl, (hp.take n.toNat (by omega)).upd hu fun k e => by omega, ⟨A2, c2, ?_, h2.upd hu fun k e => by omega, hn⟩, hu⟩
  rw [List.length_drop]
  exact hb2
set_option maxHeartbeats 2000000 in
theorem cut_yes (n₀ r : Nat) (ys : List Int) (n : Int) (w : World) (hR : Rdr n₀ w r ys 0) (n0 : 0 ≤ n) (nl : n ≤ ys.length) :
    Calls Try.prog 39 #[.pointer (some ⟨r, 0, none⟩), .int .i64 n] w (CutYes n₀ w r ys n) := by
  obtain ⟨A, c, hb, hp, hn⟩ := hR
  have hc0 : w.cell? ⟨r, 0, none⟩ = some (.slice A ys.length c) := hb.cell 0
  have hc1 : w.cell? ⟨r, 1, none⟩ = some (.int .i64 0) := hb.cell 1
  have hf0 := hb.frozen 0
  have hcap := hp.cap
  have hmax := hp.max
  have HN := Lib.hid nl
  obtain ⟨k, rfl⟩ := Int.eq_ofNat_of_zero_le n0
  have hkl : k ≤ ys.length := by omega
  unfold maxLen at hmax
  cases A with
  | none =>
    have hcz := hp.nz rfl
    subst hcz
    have hys : ys = [] := List.eq_nil_of_length_eq_zero (by omega)
    subst hys
    have hk0 : k = 0 := by simpa using hkl
    subst hk0
    have HB := Lib.hid hb; have HP := Lib.hid hp
    clear hb hp nl
    go_enter Try.func39, Try.ntmps39
    go_wp2_with fail
    go_ret
    exact cut_end HB.out HP.out hn n0 HN.out 0 rfl HP.out
  | some a =>
    obtain ⟨b, o, rfl⟩ := hp.pl a rfl
    have HB := Lib.hid hb; have HP := Lib.hid hp
    clear hb hp nl
    by_cases hck : c = k
    · subst hck
      have hyl : ys.length - c = 0 := by omega
      have HD : Hid (Pc n₀ w (some ⟨b, o, none⟩) 0 (ys.drop (c : Int).toNat)) := Lib.hid (by
        rw [List.drop_eq_nil_of_le (by omega)]
        exact HP.out.nil_ 0 (by decide) nofun)
      go_enter Try.func39, Try.ntmps39
      go_wp2_with fail
      go_ret
      exact cut_end HB.out HP.out hn n0 HN.out _ (by simp; try omega) HD.out
    · have HD : Hid (Pc n₀ w (some ⟨b, o + k, none⟩) (c - k) (ys.drop (k : Int).toNat)) := Lib.hid (HP.out.drop k hkl)
      go_enter Try.func39, Try.ntmps39
      go_wp2_with fail
      go_ret
      exact cut_end HB.out HP.out hn n0 HN.out _ (by simp) HD.out
set_option maxHeartbeats 2000000 in
theorem cut_no (n₀ r : Nat) (ys : List Int) (e n : Int) (w : World) (hR : Rdr n₀ w r ys e) (h : e ≠ 0 ∨ (ys.length : Int) < n) :
    Calls Try.prog 39 #[.pointer (some ⟨r, 0, none⟩), .int .i64 n] w fun en w' => en = .returned (.slice none 0 0) ∧ Rdr n₀ w' r ys (failE e 3) ∧ Upd (· = r) w w' := by
  have hf := fail n₀ r ys e 3 w hR
  have hnz : failE e 3 ≠ 0 := by unfold failE; split <;> simp_all
  obtain ⟨A, c, hb, hp, hn⟩ := id hR
  have hc0 : w.cell? ⟨r, 0, none⟩ = some (.slice A ys.length c) := hb.cell 0
  have hc1 : w.cell? ⟨r, 1, none⟩ = some (.int .i64 e) := hb.cell 1
  have HF := Lib.hid hf; have HR := Lib.hid hR; have HNZ := Lib.hid hnz
  have HFE : Hid (e ≠ 0 → failE e 3 = e) := Lib.hid fun h => by unfold failE; rw [if_neg h]
  have hr := hp.reach
  clear hf hR hb hp hnz
  by_cases hl : (ys.length : Int) < n
  · clear h
    go_enter Try.func39, Try.ntmps39
    go_wp2_with fail
    refine HF.out.mono ?_
    rintro en w1 ⟨⟨v, rfl⟩, h1, h2⟩
    obtain ⟨A1, c1, hb1, hp1, hn1⟩ := id h1
    have hd1 : w1.cell? ⟨r, 1, none⟩ = some (.int .i64 (failE e 3)) := hb1.cell 1
    have HR1 := Lib.hid h1; have HU1 := Lib.hid h2
    have hz : (failE e 3 != 0) = true := by simp [HNZ.out]
    clear h1 h2 hb1 hp1 hc0 hc1
    go_wp2_with fail
    go_ret
    exact ⟨rfl, HR1.out, HU1.out⟩
  · have he : e ≠ 0 := h.resolve_right hl
    have hz : (e != 0) = true := by simp [he]
    have HE := Lib.hid (HFE.out he)
    have hl2 : n ≤ (ys.length : Int) := by omega
    clear h he hl
    go_enter Try.func39, Try.ntmps39
    go_wp2_with fail
    go_ret
    exact ⟨rfl, by rw [HE.out]; exact HR.out, Upd.refl _ _⟩
end Go.Proofs.Ytgcmbleinobneaa.Ip
