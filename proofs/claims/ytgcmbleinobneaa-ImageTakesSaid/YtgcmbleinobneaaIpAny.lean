/- DERIVED. The program's Put in all its ways; a copy of bytes as Take wants it. By an AI agent. -/
import Derived.Test.YtgcmbleinobneaaIpTake2
import Derived.Test.YtgcmbleinobneaaIpFew
import Derived.Test.YtgcmbleinobneaaIpWord3
namespace Go.Proofs.Ytgcmbleinobneaa.Ip
open Go.ChangeShapes Go.WideShapes Go.ChangeAt Go.RowKit Args ImRef
set_option linter.unusedVariables false
def PutR (zs : List Int) (m : Man) (w : World) (en : Ending) (w' : World) : Prop :=
  ∃ A' c' l', en = .returned (.tuple #[.slice A' l' c', .int .i64 (putE zs m : Nat)]) ∧ Below w.heap.size w w' ∧ (putE zs m = 0 → OwnB (w.heap.size + 1) w' A' c' l' (putL zs m)) ∧ (putE zs m ≠ 0 → A' = none ∧ c' = 0 ∧ l' = 0)
theorem putAny (A0 : Option Addr) (cap : Nat) (zs : List Int) (m : Man) (A4 A5 A6 : Option Addr) (c4 c5 c6 : Nat) (w : World) (hz : Lies w A0 (zs.map (.int .u16))) (hzb : ∀ z ∈ zs, 0 ≤ z ∧ z ≤ 65535) (h4 : Cs w A4 m.se) (h5 : Cs w A5 m.pu) (h6 : Cs w A6 m.ou) :
    Calls Try.prog 10 #[.slice A0 zs.length cap, man m A4 A5 A6 c4 c5 c6] w (PutR zs m w) := by
  cases hc : canM m with
  | false =>
    have he : putE zs m = 1 := by unfold putE; rw [hc]; rfl
    refine (put_arg A0 zs.length cap m A4 A5 A6 c4 c5 c6 w h4 h5 h6 hc).mono ?_
    rintro en w' ⟨rfl, hb⟩
    exact ⟨none, 0, 0, by rw [he]; rfl, hb, fun h => (by rw [he] at h; cases h), fun _ => ⟨rfl, rfl, rfl⟩⟩
  | true =>
    by_cases hl : 60000 < zs.length
    · have he : putE zs m = 2 := by unfold putE; rw [hc, if_pos rfl, if_pos hl]
      refine (put_long A0 zs.length cap m A4 A5 A6 c4 c5 c6 w h4 h5 h6 hc hl).mono ?_
      rintro en w' ⟨rfl, hb⟩
      exact ⟨none, 0, 0, by rw [he]; rfl, hb, fun h => (by rw [he] at h; cases h), fun _ => ⟨rfl, rfl, rfl⟩⟩
    · have he : putE zs m = 0 := by unfold putE; rw [hc, if_pos rfl, if_neg hl]
      refine (put A0 cap zs m A4 A5 A6 c4 c5 c6 w hz hzb h4 h5 h6 hc (by omega)).mono ?_
      rintro en w' ⟨A', c', l', rfl, ho, hb⟩
      exact ⟨A', c', l', by rw [he]; rfl, hb, fun _ => ho, fun h => absurd he h⟩
theorem putE_0 {zs : List Int} {m : Man} (h : putE zs m = 0) : canM m = true ∧ zs.length ≤ 60000 := by
  unfold putE at h
  split at h
  · rename_i hc
    split at h
    · cases h
    · exact ⟨hc, by omega⟩
  · cases h
theorem four_byte (k : Nat) (n : Int) : Byte (fourT k n) := fun z hz => by
  unfold fourT at hz
  obtain ⟨i, _, rfl⟩ := List.mem_map.1 hz
  omega
theorem byte_app {xs ys : List Int} (h : Byte xs) (k : Byte ys) : Byte (xs ++ ys) := fun z hz => by
  rcases List.mem_append.1 hz with hz | hz
  · exact h z hz
  · exact k z hz
theorem cell_byte (c : TI) (h : okC c = true) : Byte (cellL c) := by
  obtain ⟨s1, s2, n1, n2⟩ := okC_of c h
  intro z hz
  unfold cellL at hz
  rcases List.mem_cons.1 hz with rfl | hz
  · omega
  rcases List.mem_append.1 hz with hz | hz
  · exact sbytes_byte _ z hz
  · exact four_byte 4 _ z hz
theorem list_byte (l : List TI) (h : cellsB l = true) : Byte (listL l) := fun z hz => by
  unfold cellsB at h
  simp only [Bool.and_eq_true, decide_eq_true_eq] at h
  unfold listL at hz
  rcases List.mem_cons.1 hz with rfl | hz
  · omega
  obtain ⟨c, hc, hz⟩ := List.mem_flatMap.1 hz
  exact cell_byte c (List.all_eq_true.1 h.1 c hc) z hz
theorem put_byte (zs : List Int) (m : Man) (hm : canM m = true) (hz : ∀ z ∈ zs, 0 ≤ z ∧ z ≤ 65535) : Byte (putL zs m) := by
  obtain ⟨_, _, _, _, k4, k5, k6⟩ := nums_of m hm
  have hc : Byte (codeL zs) := fun x hx => by
    obtain ⟨z, hzm, hx⟩ := List.mem_flatMap.1 hx
    have := hz z hzm
    simp at hx
    omega
  have h1 : Byte msk1 := by unfold Byte msk1; decide
  exact byte_app (byte_app (byte_app (byte_app (byte_app (byte_app (byte_app (byte_app (byte_app h1 (four_byte _ _)) (four_byte _ _)) (four_byte _ _)) (four_byte _ _)) (four_byte _ _)) hc) (list_byte _ k4)) (list_byte _ k5)) (list_byte _ k6)
theorem put_long_ (zs : List Int) (m : Man) (hm : canM m = true) (hl : zs.length ≤ 60000) : 24 ≤ (putL zs m).length ∧ (putL zs m).length ≤ 200000 := by
  obtain ⟨_, _, _, _, k4, k5, k6⟩ := nums_of m hm
  have := list_len _ k4
  have := list_len _ k5
  have := list_len _ k6
  unfold putL headL
  simp only [List.length_append, code_len, four_length]
  have : msk1.length = 4 := rfl
  omega
theorem box7 {w : World} {g : Nat} {t : TypeId} {m : Man} {A4 A5 A6 : Option Addr} {c4 c5 c6 : Nat} (h : Blk w g t (manV m A4 A5 A6 c4 c5 c6)) : w.cell? ⟨g, 0, none⟩ = some (.int .i64 m.o) ∧ w.cell? ⟨g, 1, none⟩ = some (.int .i64 m.s) ∧ w.cell? ⟨g, 2, none⟩ = some (.int .i64 m.r) ∧ w.cell? ⟨g, 3, none⟩ = some (.int .i64 m.w) ∧ w.cell? ⟨g, 4, none⟩ = some (.slice A4 m.se.length c4) ∧ w.cell? ⟨g, 5, none⟩ = some (.slice A5 m.pu.length c5) ∧ w.cell? ⟨g, 6, none⟩ = some (.slice A6 m.ou.length c6) :=
  ⟨h.cell 0, h.cell 1, h.cell 2, h.cell 3, h.cell 4, h.cell 5, h.cell 6⟩
/-- A fresh copy of bytes, as Take wants it. -/
theorem pc_own {w : World} {base n c : Nat} {A : Option Addr} {bs : List Int} (h : w.ownsRow base 5 1 (.slice A n c) n (bs.map (.int .u8))) (hn : n = bs.length) (h1 : n ≤ c) (h2 : c ≤ maxLen) (hb : Byte bs) (hr : bs.length ≤ 140737488351232) : Pc w.heap.size w A c bs := by
  subst hn
  exact ⟨h1, h2, own_nz h, own_pl h, lies_own h, fun b o e _ => by
    subst e
    exact (World.ownsRow.lt h b rfl).2, hb, hr⟩
theorem take_n (A : Option Addr) (c n : Nat) (bs : List Int) (hn : bs.length = n) (w : World) (hp : Pc w.heap.size w A c bs) :
    Calls Try.prog 14 #[.slice A n c] w (TakeR bs w) := by
  subst hn
  exact take A c bs w hp
end Go.Proofs.Ytgcmbleinobneaa.Ip
