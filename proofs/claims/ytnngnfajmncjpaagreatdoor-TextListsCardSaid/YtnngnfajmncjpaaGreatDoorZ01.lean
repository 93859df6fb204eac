/- DERIVED. TxSpec in one text. By an AI agent. -/
import Derived.Lib.ItoaNum
import Derived.Lib.ItoaLen
import Derived.Lib.AtoiAllCases
/- DERIVED. Plain facts on the texts of instructions, of no program: what is written is read, and no two instructions have one text. By an AI agent. -/
namespace Go.Proofs.YtnngnfajmncjpaaGreatDoor.Tx
open Go.Lib
set_option linter.unusedVariables false
abbrev Txt := List UInt8
/-- The numbers of an instruction. -/
structure Nm where
  d : Int
  n : Int
  m : Int
  i : Int
def Nm.nul : Nm := ⟨0, 0, 0, 0⟩
def Nm.get (s : Nm) (k : Nat) : Int := if k = 0 then s.d else if k = 1 then s.n else if k = 2 then s.m else s.i
def Nm.set (s : Nm) (k : Nat) (x : Int) : Nm := if k = 0 then { s with d := x } else if k = 1 then { s with n := x } else if k = 2 then { s with m := x } else { s with i := x }
def shp : List Txt := [
  [109, 111, 118, 115, 32, 68, 44, 32, 73],
  [99, 109, 112, 32, 68, 44, 32, 73],
  [97, 100, 100, 115, 32, 68, 44, 32, 73],
  [115, 117, 98, 115, 32, 68, 44, 32, 73],
  [108, 115, 108, 115, 32, 68, 44, 32, 77, 44, 32, 73],
  [108, 115, 114, 115, 32, 68, 44, 32, 77, 44, 32, 73],
  [97, 115, 114, 115, 32, 68, 44, 32, 77, 44, 32, 73],
  [97, 100, 100, 115, 32, 68, 44, 32, 78, 44, 32, 77],
  [115, 117, 98, 115, 32, 68, 44, 32, 78, 44, 32, 77],
  [97, 100, 100, 115, 32, 68, 44, 32, 78, 44, 32, 73],
  [115, 117, 98, 115, 32, 68, 44, 32, 78, 44, 32, 73],
  [65, 32, 68, 44, 32, 77],
  [108, 100, 114, 32, 68, 44, 32, 91, 78, 44, 32, 87, 93],
  [115, 116, 114, 32, 68, 44, 32, 91, 78, 44, 32, 87, 93],
  [108, 100, 114, 32, 68, 44, 32, 91, 78, 44, 32, 77, 93],
  [115, 116, 114, 32, 68, 44, 32, 91, 78, 44, 32, 77, 93],
  [108, 100, 114, 32, 68, 44, 32, 91, 112, 99, 44, 32, 87, 93],
  [98, 32, 72],
  [98, 67, 32, 72],
  [110, 111, 112],
  [98, 107, 112, 116, 32, 73]]
def shpN (op : Nat) : Txt := shp[op]?.getD []
def aluW : List Txt := [[97, 110, 100, 115], [101, 111, 114, 115], [108, 115, 108, 115], [108, 115, 114, 115], [97, 115, 114, 115], [97, 100, 99, 115], [115, 98, 99, 115], [114, 111, 114, 115], [116, 115, 116], [114, 115, 98, 115], [99, 109, 112], [99, 109, 110], [111, 114, 114, 115], [109, 117, 108, 115], [98, 105, 99, 115], [109, 118, 110, 115]]
def cndW : List Txt := [[101, 113], [110, 101], [99, 115], [99, 99], [109, 105], [112, 108], [118, 115], [118, 99], [104, 105], [108, 115], [103, 101], [108, 116], [103, 116], [108, 101]]
/-- What a letter of a shape stands for: which number, and its words, or its mark and how many times it is written. -/
structure Pl where
  of : Nat
  ws : List Txt
  mark : UInt8
  times : Nat
def plc (c : UInt8) : Option Pl :=
  if c = 68 then some ⟨0, [], 114, 1⟩ else if c = 78 then some ⟨1, [], 114, 1⟩ else if c = 77 then some ⟨2, [], 114, 1⟩
  else if c = 73 then some ⟨3, [], 35, 1⟩ else if c = 72 then some ⟨3, [], 35, 2⟩ else if c = 87 then some ⟨3, [], 35, 4⟩
  else if c = 65 then some ⟨3, aluW, 0, 0⟩ else if c = 67 then some ⟨0, cndW, 0, 0⟩ else none
/-- What is written of a number at a letter. -/
def Pl.show (p : Pl) (s : Nm) : Txt := if p.ws = [] then p.mark :: itoa (p.times * s.get p.of) else p.ws[(s.get p.of).toNat]?.getD []
def wr : Txt → Nm → Txt
  | [], _ => []
  | c :: r, s => (match plc c with | some p => p.show s | none => [c]) ++ wr r s
def showL (op : Nat) (s : Nm) : Txt := wr (shpN op) s
/-- A letter behind a number or a word. -/
def stp (c : UInt8) : Bool := c == 32 || c == 44 || c == 93
/-- The number that a text tells at a letter. -/
def Pl.num (p : Pl) (t : Txt) : Option Int :=
  if p.ws = [] then
    match t with
    | [] => none
    | x :: r => if x = p.mark then (match atoiAll r with | .ok v => some (v.tdiv p.times) | _ => none) else none
  else if p.ws.idxOf t < p.ws.length then some (p.ws.idxOf t) else none
def rd : Txt → Txt → Nm → Option Nm
  | [], t, s => if t = [] then some s else none
  | c :: r, t, s =>
    match plc c with
    | some p => (match p.num (t.takeWhile fun x => !stp x) with | some v => rd r (t.dropWhile fun x => !stp x) (s.set p.of v) | none => none)
    | none => (match t with | [] => none | x :: t' => if x = c then rd r t' s else none)
/-- What is read of what is written. -/
def upd : Txt → Nm → Nm → Nm
  | [], s0, _ => s0
  | c :: r, s0, s => (match plc c with | some p => upd r (s0.set p.of (s.get p.of)) s | none => upd r s0 s)
def wfS : Txt → Bool
  | [] => true
  | c :: r => (match plc c with | some _ => (match r with | [] => true | x :: _ => stp x && (plc x).isNone) | none => true) && wfS r
/-- A letter's number is written so that it is read again. -/
def Fits (c : UInt8) (s : Nm) : Prop := ∀ p, plc c = some p → (∀ x ∈ p.show s, stp x = false) ∧ p.num (p.show s) = some (s.get p.of)
theorem head_wr (r : Txt) (s : Nm) (h : match r with | [] => True | x :: _ => stp x = true ∧ plc x = none) : wr r s = [] ∨ ∃ x l, wr r s = x :: l ∧ stp x = true := by
  cases r with
  | nil => exact Or.inl rfl
  | cons x l =>
    right
    obtain ⟨h1, h2⟩ := h
    exact ⟨x, wr l s, by simp [wr, h2], h1⟩
theorem take_off (a b : Txt) (ha : ∀ x ∈ a, stp x = false) (hb : b = [] ∨ ∃ x l, b = x :: l ∧ stp x = true) : (a ++ b).takeWhile (fun x => !stp x) = a ∧ (a ++ b).dropWhile (fun x => !stp x) = b := by
  induction a with
  | nil =>
    rcases hb with rfl | ⟨x, l, rfl, hx⟩
    · exact ⟨rfl, rfl⟩
    · simp [hx]
  | cons y a ih =>
    have hy := ha y (by simp)
    obtain ⟨h1, h2⟩ := ih fun x hx => ha x (by simp [hx])
    simp [hy, h1, h2]
theorem rd_wr : ∀ (sh : Txt) (s0 s : Nm), wfS sh = true → (∀ c ∈ sh, Fits c s) → rd sh (wr sh s) s0 = some (upd sh s0 s)
  | [], _, _, _, _ => rfl
  | c :: r, s0, s, hw, hf => by
    have hf' : ∀ c ∈ r, Fits c s := fun x hx => hf x (by simp [hx])
    unfold wfS at hw
    rw [Bool.and_eq_true] at hw
    obtain ⟨h1, h2⟩ := hw
    unfold rd wr upd
    cases hc : plc c with
    | none =>
      simp only [List.cons_append, List.nil_append, if_true]
      exact rd_wr r s0 s h2 hf'
    | some p =>
      rw [hc] at h1
      obtain ⟨g1, g2⟩ := hf c (by simp) p hc
      obtain ⟨e1, e2⟩ := take_off (p.show s) (wr r s) g1 (head_wr r s (by
        cases r with
        | nil => trivial
        | cons x l => simpa [Option.isNone_iff_eq_none] using h1))
      simp only [e1, e2, g2]
      exact rd_wr r _ s h2 hf'
/-! Numerals. -/
theorem dg_val (k : Nat) (h : k < 10) : (UInt8.ofNat (48 + k)).toNat = 48 + k := by
  rw [UInt8.toNat_ofNat']; omega
theorem dec_digit (u : Nat) : ∀ x ∈ decDigits u, 48 ≤ x.toNat ∧ x.toNat ≤ 57 := by
  induction u using Nat.strongRecOn with
  | _ u ih =>
    intro x hx
    rw [decDigits] at hx
    split at hx
    · rename_i h
      simp only [List.mem_singleton] at hx
      subst hx
      rw [dg_val u h]; omega
    · rename_i h
      rw [List.mem_append] at hx
      rcases hx with hx | hx
      · exact ih (u / 10) (by omega) x hx
      · simp only [List.mem_singleton] at hx
        subst hx
        rw [dg_val _ (by omega)]; omega
theorem dec_ne (u : Nat) : decDigits u ≠ [] := by
  rw [decDigits]; split <;> simp
theorem parse_snoc (d : Nat) (hd : d < 10) : ∀ (l : Txt) (acc u : Nat), parseUint10 acc l = .ok u → u * 10 + d < 18446744073709551616 → parseUint10 acc (l ++ [UInt8.ofNat (48 + d)]) = .ok (u * 10 + d)
  | [], acc, u, h, hb => by
    simp only [parseUint10, NumEnd.ok.injEq] at h
    subst h
    have e := dg_val d hd
    simp only [List.nil_append, parseUint10]
    rw [e, if_pos (by omega), if_neg (by omega), if_neg (by omega)]
    congr 1
    omega
  | c :: r, acc, u, h, hb => by
    simp only [parseUint10] at h
    simp only [List.cons_append, parseUint10]
    split at h
    · split at h
      · cases h
      · split at h
        · cases h
        · exact (by rw [if_pos (by assumption), if_neg (by assumption), if_neg (by assumption)]; exact parse_snoc d hd r _ u h hb)
    · cases h
theorem parse_dec (u : Nat) (hu : u < 18446744073709551616) : parseUint10 0 (decDigits u) = .ok u := by
  induction u using Nat.strongRecOn with
  | _ u ih =>
    rw [decDigits]
    split
    · rename_i h
      have := parse_snoc u h [] 0 0 rfl (by omega)
      simpa using this
    · rename_i h
      have h1 := ih (u / 10) (by omega) (by omega)
      have := parse_snoc (u % 10) (by omega) _ 0 _ h1 (by omega)
      rw [this]
      congr 1
      omega
theorem atoi_itoa (v : Int) (h0 : -100000 ≤ v) (h1 : v ≤ 100000) : atoiAll (itoa v) = .ok v := by
  have mag : ∀ u : Nat, u ≤ 100000 → parseMag (decDigits u) = .ok u := by
    intro u hu
    unfold parseMag
    rw [if_neg (dec_ne u), parse_dec u (by omega)]
  unfold itoa
  split
  · rename_i h
    rw [atoiAll_minus, mag v.natAbs (by omega)]
    unfold signed
    simp only
    rw [if_neg (by omega)]
    congr 1
    omega
  · rename_i h
    obtain ⟨c, r, hcr⟩ : ∃ c r, decDigits v.toNat = c :: r := by
      cases hx : decDigits v.toNat with
      | nil => exact absurd hx (dec_ne _)
      | cons c r => exact ⟨c, r, rfl⟩
    have hc := dec_digit v.toNat c (by rw [hcr]; simp)
    rw [hcr, atoiAll_plain c r (by omega) (by omega), ← hcr, mag v.toNat (by omega)]
    unfold signless
    simp only
    rw [if_neg (by omega)]
    congr 1
    omega
theorem itoa_stp (v : Int) : ∀ x ∈ itoa v, stp x = false ∧ (x.toNat = 45 ∨ 48 ≤ x.toNat ∧ x.toNat ≤ 57) := by
  have key : ∀ x : UInt8, x.toNat = 45 ∨ 48 ≤ x.toNat ∧ x.toNat ≤ 57 → stp x = false := by
    intro x hx
    unfold stp
    simp only [Bool.or_eq_false_iff, beq_eq_false_iff_ne, ne_eq]
    refine ⟨⟨?_, ?_⟩, ?_⟩ <;> (intro h; subst h; revert hx; decide)
  intro x hx
  have hd : x.toNat = 45 ∨ 48 ≤ x.toNat ∧ x.toNat ≤ 57 := by
    unfold itoa at hx
    split at hx
    · rw [List.mem_cons] at hx
      rcases hx with rfl | hx
      · exact Or.inl rfl
      · exact Or.inr (dec_digit _ x hx)
    · exact Or.inr (dec_digit _ x hx)
  exact ⟨key x hd, hd⟩
/-! Which instructions there are. -/
def dHi (k : Nat) : Int := if k < 17 then 7 else if k = 18 then 13 else 0
def nHi (k : Nat) : Int := if k = 7 ∨ k = 8 ∨ k = 9 ∨ k = 10 ∨ k = 12 ∨ k = 13 ∨ k = 14 ∨ k = 15 then 7 else 0
def mHi (k : Nat) : Int := if k = 4 ∨ k = 5 ∨ k = 6 ∨ k = 7 ∨ k = 8 ∨ k = 11 ∨ k = 14 ∨ k = 15 then 7 else 0
def iLo : List Int := [0, 0, 0, 0, 0, 1, 1, 0, 0, 0, 0, 0, 0, 0, 0, 0, 0, -1024, -128, 0, 0]
def iHi : List Int := [255, 255, 255, 255, 31, 32, 32, 0, 0, 7, 7, 15, 31, 31, 0, 0, 255, 1023, 127, 0, 255]
structure Okk (k : Nat) (s : Nm) : Prop where
  hk : k < 21
  d0 : 0 ≤ s.d
  d1 : s.d ≤ dHi k
  n0 : 0 ≤ s.n
  n1 : s.n ≤ nHi k
  m0 : 0 ≤ s.m
  m1 : s.m ≤ mHi k
  i0 : iLo[k]?.getD 0 ≤ s.i
  i1 : s.i ≤ iHi[k]?.getD 0
theorem Okk.bnd {k : Nat} {s : Nm} (h : Okk k s) : (0 ≤ s.d ∧ s.d ≤ 13) ∧ (0 ≤ s.n ∧ s.n ≤ 7) ∧ (0 ≤ s.m ∧ s.m ≤ 7) ∧ (-1024 ≤ s.i ∧ s.i ≤ 1023) := by
  have H : ∀ j : Fin 21, -1024 ≤ iLo[j.val]?.getD 0 ∧ iHi[j.val]?.getD 0 ≤ 1023 := by decide
  have hj := H ⟨k, h.hk⟩
  have d1 := h.d1; have n1 := h.n1; have m1 := h.m1; have i0 := h.i0; have i1 := h.i1
  simp only at hj
  unfold dHi at d1; unfold nHi at n1; unfold mHi at m1
  refine ⟨⟨h.d0, ?_⟩, ⟨h.n0, ?_⟩, ⟨h.m0, ?_⟩, by omega, by omega⟩
  · split at d1
    · omega
    · split at d1 <;> omega
  · split at n1 <;> omega
  · split at m1 <;> omega
/-- A number with a mark is read again. -/
theorem num_fits (of : Nat) (mark : UInt8) (times : Nat) (s : Nm) (ht : 1 ≤ times) (hm : stp mark = false) (h0 : -100000 ≤ (times : Int) * s.get of) (h1 : (times : Int) * s.get of ≤ 100000) :
    (∀ x ∈ (Pl.mk of [] mark times).show s, stp x = false) ∧ (Pl.mk of [] mark times).num ((Pl.mk of [] mark times).show s) = some (s.get of) := by
  have e : (Pl.mk of [] mark times).show s = mark :: itoa (times * s.get of) := rfl
  refine ⟨?_, ?_⟩
  · rw [e]
    intro x hx
    rw [List.mem_cons] at hx
    rcases hx with rfl | hx
    · exact hm
    · exact (itoa_stp _ x hx).1
  · rw [e]
    show (if mark = mark then (match atoiAll (itoa (times * s.get of)) with | .ok v => some (v.tdiv times) | _ => none) else none) = _
    rw [if_pos rfl, atoi_itoa _ h0 h1]
    show some (((times : Int) * s.get of).tdiv times) = _
    rw [Int.mul_tdiv_cancel_left _ (by omega)]
theorem word_fits (of : Nat) (ws : List Txt) (s : Nm) (h0 : 0 ≤ s.get of) (h1 : s.get of < ws.length) (hne : ws ≠ []) (hs : ∀ j : Fin ws.length, (∀ x ∈ ws[j.val], stp x = false) ∧ ws.idxOf ws[j.val] = j.val) (mk : UInt8) (t : Nat) :
    (∀ x ∈ (Pl.mk of ws mk t).show s, stp x = false) ∧ (Pl.mk of ws mk t).num ((Pl.mk of ws mk t).show s) = some (s.get of) := by
  obtain ⟨j, hj⟩ := Int.eq_ofNat_of_zero_le h0
  have hjl : j < ws.length := by omega
  have e : (Pl.mk of ws mk t).show s = ws[j] := by
    unfold Pl.show
    rw [if_neg hne]
    show ws[(s.get of).toNat]?.getD [] = _
    rw [hj]
    simp [List.getElem?_eq_getElem hjl]
  obtain ⟨g1, g2⟩ := hs ⟨j, hjl⟩
  rw [e]
  refine ⟨g1, ?_⟩
  unfold Pl.num
  rw [if_neg hne]
  show (if ws.idxOf ws[j] < ws.length then some ((ws.idxOf ws[j] : Nat) : Int) else none) = _
  rw [g2, if_pos hjl, hj]
theorem alu_ok : ∀ j : Fin aluW.length, (∀ x ∈ aluW[j.val], stp x = false) ∧ aluW.idxOf aluW[j.val] = j.val := by decide +kernel
theorem cnd_ok : ∀ j : Fin cndW.length, (∀ x ∈ cndW[j.val], stp x = false) ∧ cndW.idxOf cndW[j.val] = j.val := by decide +kernel
theorem okk_fits {k : Nat} {s : Nm} (h : Okk k s) : ∀ c ∈ shpN k, Fits c s := by
  obtain ⟨⟨a1, a2⟩, ⟨b1, b2⟩, ⟨c1, c2⟩, e1, e2⟩ := h.bnd
  intro c hc p hp
  unfold plc at hp
  split at hp
  · cases hp; exact num_fits 0 114 1 s (by decide) (by decide) (by show _ ≤ (1 : Int) * s.d; omega) (by show (1 : Int) * s.d ≤ _; omega)
  split at hp
  · cases hp; exact num_fits 1 114 1 s (by decide) (by decide) (by show _ ≤ (1 : Int) * s.n; omega) (by show (1 : Int) * s.n ≤ _; omega)
  split at hp
  · cases hp; exact num_fits 2 114 1 s (by decide) (by decide) (by show _ ≤ (1 : Int) * s.m; omega) (by show (1 : Int) * s.m ≤ _; omega)
  split at hp
  · cases hp; exact num_fits 3 35 1 s (by decide) (by decide) (by show _ ≤ (1 : Int) * s.i; omega) (by show (1 : Int) * s.i ≤ _; omega)
  split at hp
  · cases hp; exact num_fits 3 35 2 s (by decide) (by decide) (by show _ ≤ (2 : Int) * s.i; omega) (by show (2 : Int) * s.i ≤ _; omega)
  split at hp
  · cases hp; exact num_fits 3 35 4 s (by decide) (by decide) (by show _ ≤ (4 : Int) * s.i; omega) (by show (4 : Int) * s.i ≤ _; omega)
  split at hp
  · rename_i hA
    cases hp
    have H : ∀ j : Fin 21, (65 : UInt8) ∈ shpN j.val → iLo[j.val]?.getD 0 = 0 ∧ iHi[j.val]?.getD 0 = 15 := by decide
    have hj := H ⟨k, h.hk⟩ (hA ▸ hc)
    have i0 := h.i0; have i1 := h.i1
    simp only at hj
    exact word_fits 3 aluW s (by show 0 ≤ s.i; omega) (by show s.i < 16; omega) (by decide) alu_ok 0 0
  split at hp
  · cases hp
    have H : ∀ j : Fin 21, (67 : UInt8) ∈ shpN j.val → j.val = 18 := by decide
    exact word_fits 0 cndW s (by show 0 ≤ s.d; omega) (by show s.d < 14; omega) (by decide) cnd_ok 0 0
  · cases hp
theorem wf_shp : ∀ k : Fin 21, wfS (shpN k.val) = true := by decide +kernel
theorem upd_nul {k : Nat} {s : Nm} (h : Okk k s) : upd (shpN k) Nm.nul s = s := by
  obtain ⟨d, n, m, i⟩ := s
  have hk := h.hk
  have d0 := h.d0; have d1 := h.d1; have n0 := h.n0; have n1 := h.n1; have m0 := h.m0; have m1 := h.m1; have i0 := h.i0; have i1 := h.i1
  have H : ∀ c : Nat, c < 256 → plc (UInt8.ofNat c) = plc (UInt8.ofNat c) := fun _ _ => rfl
  clear h
  have L : ∀ j < 21, k = j → upd (shpN k) Nm.nul ⟨d, n, m, i⟩ = ⟨d, n, m, i⟩ := by
    intro j hj e
    subst e
    simp only at d0 d1 n0 n1 m0 m1 i0 i1
    match k, hj with
    | 0, _ => 
      obtain rfl : n = 0 := by have b := n1; simp [nHi] at b; omega
      obtain rfl : m = 0 := by have b := m1; simp [mHi] at b; omega
      rfl
    | 1, _ => 
      obtain rfl : n = 0 := by have b := n1; simp [nHi] at b; omega
      obtain rfl : m = 0 := by have b := m1; simp [mHi] at b; omega
      rfl
    | 2, _ => 
      obtain rfl : n = 0 := by have b := n1; simp [nHi] at b; omega
      obtain rfl : m = 0 := by have b := m1; simp [mHi] at b; omega
      rfl
    | 3, _ => 
      obtain rfl : n = 0 := by have b := n1; simp [nHi] at b; omega
      obtain rfl : m = 0 := by have b := m1; simp [mHi] at b; omega
      rfl
    | 4, _ => 
      obtain rfl : n = 0 := by have b := n1; simp [nHi] at b; omega
      rfl
    | 5, _ => 
      obtain rfl : n = 0 := by have b := n1; simp [nHi] at b; omega
      rfl
    | 6, _ => 
      obtain rfl : n = 0 := by have b := n1; simp [nHi] at b; omega
      rfl
    | 7, _ => 
      obtain rfl : i = 0 := by have a := i0; have b := i1; simp [iLo, iHi] at a b; omega
      rfl
    | 8, _ => 
      obtain rfl : i = 0 := by have a := i0; have b := i1; simp [iLo, iHi] at a b; omega
      rfl
    | 9, _ => 
      obtain rfl : m = 0 := by have b := m1; simp [mHi] at b; omega
      rfl
    | 10, _ => 
      obtain rfl : m = 0 := by have b := m1; simp [mHi] at b; omega
      rfl
    | 11, _ => 
      obtain rfl : n = 0 := by have b := n1; simp [nHi] at b; omega
      rfl
    | 12, _ => 
      obtain rfl : m = 0 := by have b := m1; simp [mHi] at b; omega
      rfl
    | 13, _ => 
      obtain rfl : m = 0 := by have b := m1; simp [mHi] at b; omega
      rfl
    | 14, _ => 
      obtain rfl : i = 0 := by have a := i0; have b := i1; simp [iLo, iHi] at a b; omega
      rfl
    | 15, _ => 
      obtain rfl : i = 0 := by have a := i0; have b := i1; simp [iLo, iHi] at a b; omega
      rfl
    | 16, _ => 
      obtain rfl : n = 0 := by have b := n1; simp [nHi] at b; omega
      obtain rfl : m = 0 := by have b := m1; simp [mHi] at b; omega
      rfl
    | 17, _ => 
      obtain rfl : d = 0 := by have b := d1; simp [dHi] at b; omega
      obtain rfl : n = 0 := by have b := n1; simp [nHi] at b; omega
      obtain rfl : m = 0 := by have b := m1; simp [mHi] at b; omega
      rfl
    | 18, _ => 
      obtain rfl : n = 0 := by have b := n1; simp [nHi] at b; omega
      obtain rfl : m = 0 := by have b := m1; simp [mHi] at b; omega
      rfl
    | 19, _ => 
      obtain rfl : d = 0 := by have b := d1; simp [dHi] at b; omega
      obtain rfl : n = 0 := by have b := n1; simp [nHi] at b; omega
      obtain rfl : m = 0 := by have b := m1; simp [mHi] at b; omega
      obtain rfl : i = 0 := by have a := i0; have b := i1; simp [iLo, iHi] at a b; omega
      rfl
    | 20, _ => 
      obtain rfl : d = 0 := by have b := d1; simp [dHi] at b; omega
      obtain rfl : n = 0 := by have b := n1; simp [nHi] at b; omega
      obtain rfl : m = 0 := by have b := m1; simp [mHi] at b; omega
      rfl
    | _ + 21, hj => omega
  exact L k hk rfl
/-- What is written of an instruction is read as it. -/
theorem rd_show {k : Nat} {s : Nm} (h : Okk k s) : rd (shpN k) (showL k s) Nm.nul = some s := by
  unfold showL
  rw [rd_wr _ _ _ (wf_shp ⟨k, h.hk⟩) (okk_fits h), upd_nul h]
end Go.Proofs.YtnngnfajmncjpaaGreatDoor.Tx
