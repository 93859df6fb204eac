/- DERIVED. Plain mathematics of images: numbers, cells, lists out of bytes; what an image's bytes come to; there and back. By an AI agent. -/
import Derived.Test.YtgcmbleinobneaaImPut2
import Derived.Laws.BytesArg
namespace Go.Proofs.Ytgcmbleinobneaa.ImRef
open Go.ChangeShapes Go.WideShapes Go.ChangeAt Go.RowKit Args
set_option linter.unusedVariables false
def Byte (xs : List Int) : Prop := ∀ z ∈ xs, 0 ≤ z ∧ z < 256
theorem Byte.take {xs : List Int} (h : Byte xs) (n : Nat) : Byte (xs.take n) := fun z hz => h z (List.mem_of_mem_take hz)
theorem Byte.drop {xs : List Int} (h : Byte xs) (n : Nat) : Byte (xs.drop n) := fun z hz => h z (List.mem_of_mem_drop hz)
/-- A number, the lowest byte first. -/
def numL : List Int → Int
  | [] => 0
  | x :: r => x + 256 * numL r
theorem numL_snoc : ∀ (xs : List Int) (x : Int), numL (xs ++ [x]) = numL xs + x * 256 ^ xs.length
  | [], x => by simp [numL]
  | y :: r, x => by
    have := numL_snoc r x
    simp only [List.cons_append, numL, List.length_cons, this, Int.pow_succ]
    rw [Int.mul_add, Int.add_assoc, ← Int.mul_assoc, Int.mul_comm 256 x, Int.mul_assoc x, Int.mul_comm 256 (256 ^ r.length)]
theorem numL_bd : ∀ (xs : List Int), (∀ z ∈ xs, 0 ≤ z ∧ z < 256) → 0 ≤ numL xs ∧ numL xs < 256 ^ xs.length
  | [], _ => by simp [numL]
  | y :: r, h => by
    have h1 := numL_bd r fun z hz => h z (List.mem_cons_of_mem _ hz)
    have h2 := h y List.mem_cons_self
    simp only [numL, List.length_cons, Int.pow_succ]
    omega
theorem fourT_cons (k : Nat) (n : Int) (h : 0 ≤ n) : fourT (k + 1) n = n % 256 :: fourT k (n / 256) := by
  unfold fourT
  rw [List.range_succ_eq_map, List.map_cons, List.map_map]
  congr 1
  · simp
  · apply List.map_congr_left
    intro i _
    show n / 256 ^ (i + 1) % 256 = n / 256 / 256 ^ i % 256
    rw [Int.pow_succ, Int.mul_comm, ← Int.ediv_ediv_of_nonneg (by decide)]
theorem num_four : ∀ (k : Nat) (n : Int), 0 ≤ n → n < 256 ^ k → numL (fourT k n) = n
  | 0, n, h, h2 => by simp at h2; simp [fourT, numL]; omega
  | k + 1, n, h, h2 => by
    rw [fourT_cons k n h]
    simp only [numL]
    rw [num_four k (n / 256) (by omega) (by rw [Int.pow_succ] at h2; omega)]
    omega
theorem four_num : ∀ (ys : List Int), Byte ys → fourT ys.length (numL ys) = ys
  | [], _ => rfl
  | y :: r, h => by
    have h1 := h y List.mem_cons_self
    have h2 := numL_bd r fun z hz => h z (List.mem_cons_of_mem _ hz)
    rw [List.length_cons, fourT_cons _ _ (by simp only [numL]; omega)]
    simp only [numL]
    rw [show (y + 256 * numL r) % 256 = y by omega, show (y + 256 * numL r) / 256 = numL r by omega, four_num r fun z hz => h z (List.mem_cons_of_mem _ hz)]
theorem four_length (k : Nat) (n : Int) : (fourT k n).length = k := by simp [fourT]
theorem sbytes_byte (s : ByteArray) : Byte (sbytes s) := fun z hz => by
  unfold sbytes at hz
  obtain ⟨b, _, rfl⟩ := List.mem_map.1 hz
  have := b.toNat_lt
  omega
theorem str_sbytes (s : ByteArray) : strOfNums (sbytes s) = s := by
  unfold strOfNums sbytes
  obtain ⟨d⟩ := s
  congr 1
  rw [List.map_map]
  have : (fun b : UInt8 => UInt8.ofNat ((b.toNat : Int)).toNat) = id := by funext b; simp
  rw [show ((fun n : Int => UInt8.ofNat n.toNat) ∘ fun b : UInt8 => (b.toNat : Int)) = id from this]
  simp
theorem sbytes_str (xs : List Int) (h : Byte xs) : sbytes (strOfNums xs) = xs := by
  unfold sbytes strOfNums
  simp only [List.map_map]
  have : ∀ z ∈ xs, ((fun b : UInt8 => (b.toNat : Int)) ∘ fun n : Int => UInt8.ofNat n.toNat) z = z := fun z hz => by
    obtain ⟨h0, h1⟩ := h z hz
    simp
    omega
  rw [List.map_congr_left this]
  simp
/-! Reading. -/
def rdNum (k : Nat) (ys : List Int) : Option (Int × List Int) := if ys.length < k then none else some (numL (ys.take k), ys.drop k)
def halves : Nat → List Int → List Int
  | 0, _ => []
  | n + 1, ys => numL (ys.take 2) :: halves n (ys.drop 2)
def rdHalves (n : Nat) (ys : List Int) : Option (List Int × List Int) := if ys.length < 2 * n then none else some (halves n ys, ys.drop (2 * n))
def rdName (k : Nat) (ys : List Int) : Option (ByteArray × List Int) := if ys.length < k then none else some (strOfNums (ys.take k), ys.drop k)
def rdCell (ys : List Int) : Option (TI × List Int) :=
  (rdNum 1 ys).bind fun p => (rdName p.1.toNat p.2).bind fun q => (rdNum 4 q.2).bind fun t => some (⟨q.1, t.1⟩, t.2)
def rdCells : Nat → List Int → Option (List TI × List Int)
  | 0, ys => some ([], ys)
  | n + 1, ys => (rdCell ys).bind fun p => (rdCells n p.2).bind fun q => some (p.1 :: q.1, q.2)
def rdList (ys : List Int) : Option (List TI × List Int) := (rdNum 1 ys).bind fun p => rdCells p.1.toNat p.2
def man0 : Man := ⟨0, 0, 0, 0, [], [], []⟩
abbrev Res := Int × List Int × Man
def bad (e : Int) : Res := (e, [], man0)
def endR (zs : List Int) (m : Man) (ys : List Int) : Res := if ys ≠ [] ∨ canM m = false then bad 4 else (0, zs, m)
def listsR (o s r w : Int) (zs : List Int) (ys : List Int) : Res :=
  match rdList ys with
  | none => bad 3
  | some (se, y1) => match rdList y1 with
    | none => bad 3
    | some (pu, y2) => match rdList y2 with
      | none => bad 3
      | some (ou, y3) => endR zs ⟨o, s, r, w, se, pu, ou⟩ y3
def codeR (o s r w n : Int) (ys : List Int) : Res :=
  if 60000 < n then bad 2 else
  match rdHalves n.toNat ys with
  | none => bad 3
  | some (zs, y1) => listsR o s r w zs y1
def headR (ys : List Int) : Res :=
  match rdNum 4 ys with
  | none => bad 3
  | some (o, y1) => match rdNum 4 y1 with
    | none => bad 3
    | some (s, y2) => match rdNum 4 y2 with
      | none => bad 3
      | some (r, y3) => match rdNum 4 y3 with
        | none => bad 3
        | some (w, y4) => match rdNum 4 y4 with
          | none => bad 3
          | some (n, y5) => codeR o s r w n y5
def takeR (bs : List Int) : Res :=
  if bs.take 4 ≠ msk1.take bs.length then bad 4 else if bs.length < 4 then bad 3 else headR (bs.drop 4)
/-! Forwards. -/
theorem rdNum_yes (k : Nat) (n : Int) (r : List Int) (h0 : 0 ≤ n) (h : n < 256 ^ k) : rdNum k (fourT k n ++ r) = some (n, r) := by
  unfold rdNum
  have hl := four_length k n
  rw [if_neg (by rw [List.length_append]; omega), List.take_left' hl, List.drop_left' hl, num_four k n h0 h]
theorem rdNum_no (k : Nat) (p : List Int) (h : p.length < k) : rdNum k p = none := by unfold rdNum; rw [if_pos h]
theorem rdName_yes (s : ByteArray) (r : List Int) : rdName s.size (sbytes s ++ r) = some (s, r) := by
  unfold rdName
  have hl := sbytes_len s
  rw [if_neg (by rw [List.length_append]; omega), List.take_left' hl, List.drop_left' hl, str_sbytes]
theorem one_four (n : Int) (h0 : 0 ≤ n) (h : n < 256) : [n] = fourT 1 n := by simp [fourT]; omega
theorem rdCell_yes (c : TI) (r : List Int) (h : okC c = true) : rdCell (cellL c ++ r) = some (c, r) := by
  obtain ⟨h1, h2, h3, h4⟩ := okC_of c h
  unfold rdCell cellL
  rw [show ((c.s.size : Int) :: (sbytes c.s ++ fourT 4 c.n)) ++ r = fourT 1 (c.s.size : Int) ++ (sbytes c.s ++ (fourT 4 c.n ++ r)) by rw [← one_four _ (by omega) (by omega)]; simp]
  rw [rdNum_yes 1 _ _ (by omega) (by omega), Option.bind_some]
  dsimp only
  rw [Int.toNat_natCast, rdName_yes, Option.bind_some]
  dsimp only
  rw [rdNum_yes 4 _ _ h3 (by omega), Option.bind_some]
theorem rdCells_yes : ∀ (l : List TI) (r : List Int), l.all okC = true → rdCells l.length (l.flatMap cellL ++ r) = some (l, r)
  | [], r, _ => rfl
  | c :: l, r, h => by
    simp only [List.all_cons, Bool.and_eq_true] at h
    rw [List.flatMap_cons, List.append_assoc, List.length_cons, rdCells, rdCell_yes c _ h.1, Option.bind_some]
    dsimp only
    rw [rdCells_yes l r h.2, Option.bind_some]
theorem cellsB_of (l : List TI) (h : cellsB l = true) : l.all okC = true ∧ l.length ≤ 64 := by
  unfold cellsB at h
  simpa only [Bool.and_eq_true, decide_eq_true_eq] using h
theorem rdList_yes (l : List TI) (r : List Int) (h : cellsB l = true) : rdList (listL l ++ r) = some (l, r) := by
  obtain ⟨h1, h2⟩ := cellsB_of l h
  unfold rdList listL
  rw [show ((l.length : Int) :: l.flatMap cellL) ++ r = fourT 1 (l.length : Int) ++ (l.flatMap cellL ++ r) by rw [← one_four _ (by omega) (by omega)]; simp]
  rw [rdNum_yes 1 _ _ (by omega) (by omega), Option.bind_some]
  dsimp only
  rw [Int.toNat_natCast, rdCells_yes l r h1]
theorem halves_yes : ∀ (zs : List Int) (r : List Int), (∀ z ∈ zs, 0 ≤ z ∧ z ≤ 65535) → halves zs.length (codeL zs ++ r) = zs
  | [], r, _ => rfl
  | z :: zs, r, h => by
    have hz := h z List.mem_cons_self
    have ih := halves_yes zs r fun y hy => h y (List.mem_cons_of_mem _ hy)
    have e : codeL (z :: zs) ++ r = z % 256 :: z / 256 :: (codeL zs ++ r) := rfl
    rw [e, List.length_cons, halves]
    show numL [z % 256, z / 256] :: halves zs.length (codeL zs ++ r) = _
    rw [ih]
    simp only [numL]
    congr 1
    omega
theorem rdHalves_yes (zs : List Int) (r : List Int) (h : ∀ z ∈ zs, 0 ≤ z ∧ z ≤ 65535) : rdHalves zs.length (codeL zs ++ r) = some (zs, r) := by
  unfold rdHalves
  have hl : (codeL zs).length = 2 * zs.length := code_len zs
  rw [if_neg (by rw [List.length_append]; omega), halves_yes zs r h, List.drop_left' hl]
theorem put_eq (zs : List Int) (m : Man) : putL zs m = msk1 ++ (fourT 4 m.o ++ (fourT 4 m.s ++ (fourT 4 m.r ++ (fourT 4 m.w ++ (fourT 4 (zs.length : Int) ++ (codeL zs ++ (listL m.se ++ (listL m.pu ++ (listL m.ou ++ []))))))))) := by
  simp [putL, headL]
theorem take_msk (r : List Int) : (msk1 ++ r).take 4 = msk1 := rfl
theorem drop_msk (r : List Int) : (msk1 ++ r).drop 4 = r := rfl
theorem take_put (zs : List Int) (m : Man) (hm : canM m = true) (hl : zs.length ≤ 60000) (hz : ∀ z ∈ zs, 0 ≤ z ∧ z ≤ 65535) : takeR (putL zs m) = (0, zs, m) := by
  obtain ⟨⟨o0, o1⟩, ⟨s0, s1⟩, ⟨r0, r1⟩, ⟨w0, w1⟩, k4, k5, k6⟩ := nums_of m hm
  rw [put_eq]
  unfold takeR
  have hlen : (msk1 ++ (fourT 4 m.o ++ (fourT 4 m.s ++ (fourT 4 m.r ++ (fourT 4 m.w ++ (fourT 4 (zs.length : Int) ++ (codeL zs ++ (listL m.se ++ (listL m.pu ++ (listL m.ou ++ [])))))))))).length ≥ 4 := by simp [msk1]
  rw [if_neg (by rw [take_msk, List.take_of_length_le (by exact hlen)]; simp), if_neg (by omega), drop_msk]
  unfold headR
  rw [rdNum_yes 4 _ _ o0 (by omega)]; dsimp only
  rw [rdNum_yes 4 _ _ s0 (by omega)]; dsimp only
  rw [rdNum_yes 4 _ _ r0 (by omega)]; dsimp only
  rw [rdNum_yes 4 _ _ w0 (by omega)]; dsimp only
  rw [rdNum_yes 4 _ _ (by omega) (by omega)]; dsimp only
  unfold codeR
  rw [if_neg (by omega), Int.toNat_natCast, rdHalves_yes zs _ hz]; dsimp only
  unfold listsR
  rw [rdList_yes _ _ k4]; dsimp only
  rw [rdList_yes _ _ k5]; dsimp only
  rw [rdList_yes _ _ k6]; dsimp only
  unfold endR
  rw [if_neg (by rw [hm]; simp)]
/-! Backwards. -/
theorem rdNum_back {k : Nat} {ys r : List Int} {n : Int} (hb : Byte ys) (h : rdNum k ys = some (n, r)) : ys = fourT k n ++ r ∧ 0 ≤ n ∧ n < 256 ^ k ∧ Byte r := by
  unfold rdNum at h
  split at h
  · cases h
  · rename_i hl
    simp only [Option.some.injEq, Prod.mk.injEq] at h
    obtain ⟨rfl, rfl⟩ := h
    have h1 := four_num (ys.take k) (hb.take k)
    have hk : (ys.take k).length = k := by rw [List.length_take]; omega
    have h2 := numL_bd (ys.take k) (hb.take k)
    rw [hk] at h1 h2
    exact ⟨by rw [h1, List.take_append_drop], h2.1, h2.2, hb.drop k⟩
theorem rdName_back {k : Nat} {ys r : List Int} {s : ByteArray} (hb : Byte ys) (h : rdName k ys = some (s, r)) : ys = sbytes s ++ r ∧ s.size = k ∧ Byte r := by
  unfold rdName at h
  split at h
  · cases h
  · rename_i hl
    simp only [Option.some.injEq, Prod.mk.injEq] at h
    obtain ⟨rfl, rfl⟩ := h
    rw [sbytes_str _ (hb.take k), strOfNums_size]
    exact ⟨(List.take_append_drop k ys).symm, by rw [List.length_take]; omega, hb.drop k⟩
theorem rdCell_back {ys r : List Int} {c : TI} (hb : Byte ys) (h : rdCell ys = some (c, r)) : ys = cellL c ++ r ∧ Byte r := by
  unfold rdCell at h
  simp only [Option.bind_eq_some_iff] at h
  obtain ⟨⟨k, y1⟩, h1, ⟨s, y2⟩, h2, ⟨n, y3⟩, h3, h4⟩ := h
  simp only [Option.some.injEq, Prod.mk.injEq] at h4
  obtain ⟨rfl, rfl⟩ := h4
  obtain ⟨e1, k0, k1, b1⟩ := rdNum_back hb h1
  obtain ⟨e2, hs, b2⟩ := rdName_back b1 h2
  obtain ⟨e3, _, _, b3⟩ := rdNum_back b2 h3
  refine ⟨?_, b3⟩
  dsimp only at e2 e3 hs
  rw [e1, e2, e3]
  unfold cellL
  dsimp only
  rw [show (s.size : Int) = k by omega, ← one_four k k0 k1]
  simp
theorem rdCells_back : ∀ (n : Nat) {ys r : List Int} {l : List TI}, Byte ys → rdCells n ys = some (l, r) → ys = l.flatMap cellL ++ r ∧ l.length = n ∧ Byte r
  | 0, ys, r, l, hb, h => by
    simp only [rdCells, Option.some.injEq, Prod.mk.injEq] at h
    obtain ⟨rfl, rfl⟩ := h
    exact ⟨rfl, rfl, hb⟩
  | n + 1, ys, r, l, hb, h => by
    simp only [rdCells, Option.bind_eq_some_iff] at h
    obtain ⟨⟨c, y1⟩, h1, ⟨l', y2⟩, h2, h3⟩ := h
    simp only [Option.some.injEq, Prod.mk.injEq] at h3
    obtain ⟨rfl, rfl⟩ := h3
    obtain ⟨e1, b1⟩ := rdCell_back hb h1
    obtain ⟨e2, hn, b2⟩ := rdCells_back n b1 h2
    exact ⟨by rw [e1, List.flatMap_cons, List.append_assoc]; rw [e2], by simp [hn], b2⟩
theorem rdList_back {ys r : List Int} {l : List TI} (hb : Byte ys) (h : rdList ys = some (l, r)) : ys = listL l ++ r ∧ Byte r := by
  unfold rdList at h
  simp only [Option.bind_eq_some_iff] at h
  obtain ⟨⟨n, y1⟩, h1, h2⟩ := h
  obtain ⟨e1, n0, n1, b1⟩ := rdNum_back hb h1
  obtain ⟨e2, hn, b2⟩ := rdCells_back _ b1 h2
  refine ⟨?_, b2⟩
  dsimp only at e2 hn
  rw [e1, e2]
  unfold listL
  rw [show (l.length : Int) = n by omega, ← one_four n n0 n1]
  simp
theorem halves_back : ∀ (n : Nat) (ys : List Int), 2 * n ≤ ys.length → Byte ys → ys = codeL (halves n ys) ++ ys.drop (2 * n) ∧ (halves n ys).length = n ∧ ∀ z ∈ halves n ys, 0 ≤ z ∧ z ≤ 65535
  | 0, ys, _, _ => ⟨by simp [halves, codeL], rfl, fun z h => by cases h⟩
  | n + 1, ys, hl, hb => by
    match ys, hl, hb with
    | a :: b :: t, hl, hb =>
      have ha := hb a List.mem_cons_self
      have hbb := hb b (List.mem_cons_of_mem _ List.mem_cons_self)
      obtain ⟨h1, h2, h3⟩ := halves_back n t (by simp at hl; omega) fun z hz => hb z (List.mem_cons_of_mem _ (List.mem_cons_of_mem _ hz))
      have e : halves (n + 1) (a :: b :: t) = (a + 256 * (b + 256 * 0)) :: halves n t := rfl
      have ed : (a :: b :: t).drop (2 * (n + 1)) = t.drop (2 * n) := by rw [show 2 * (n + 1) = 2 * n + 1 + 1 by omega]; rfl
      rw [e, ed]
      refine ⟨?_, by simp [h2], fun z hz => ?_⟩
      · have ec : codeL ((a + 256 * (b + 256 * 0)) :: halves n t) = (a + 256 * (b + 256 * 0)) % 256 :: (a + 256 * (b + 256 * 0)) / 256 :: codeL (halves n t) := rfl
        rw [ec, show (a + 256 * (b + 256 * 0)) % 256 = a by omega, show (a + 256 * (b + 256 * 0)) / 256 = b by omega, List.cons_append, List.cons_append, ← h1]
      · rcases List.mem_cons.1 hz with rfl | hz
        · omega
        · exact h3 z hz
    | [a], hl, _ => simp at hl; omega
    | [], hl, _ => simp at hl
theorem rdHalves_back {n : Nat} {ys r zs : List Int} (hb : Byte ys) (h : rdHalves n ys = some (zs, r)) : ys = codeL zs ++ r ∧ zs.length = n ∧ (∀ z ∈ zs, 0 ≤ z ∧ z ≤ 65535) ∧ Byte r := by
  unfold rdHalves at h
  split at h
  · cases h
  · rename_i hl
    simp only [Option.some.injEq, Prod.mk.injEq] at h
    obtain ⟨rfl, rfl⟩ := h
    obtain ⟨h1, h2, h3⟩ := halves_back n ys (by omega) hb
    exact ⟨h1, h2, h3, hb.drop _⟩
theorem take_back (bs : List Int) (hb : Byte bs) (zs : List Int) (m : Man) (h : takeR bs = (0, zs, m)) : bs = putL zs m ∧ canM m = true ∧ zs.length ≤ 60000 ∧ (∀ z ∈ zs, 0 ≤ z ∧ z ≤ 65535) := by
  have nb : ∀ e : Int, e ≠ 0 → bad e ≠ (0, zs, m) := fun e he h => he (Prod.mk.inj h).1
  unfold takeR at h
  split at h
  · exact absurd h (nb 4 (by decide))
  rename_i hpre
  split at h
  · exact absurd h (nb 3 (by decide))
  rename_i hlen
  have hpre' : bs.take 4 = msk1 := by
    have h1 : bs.take 4 = msk1.take bs.length := Decidable.not_not.1 hpre
    rw [h1, List.take_of_length_le (by simp [msk1]; omega)]
  unfold headR at h
  split at h
  · exact absurd h (nb 3 (by decide))
  rename_i o y1 h1
  split at h
  · exact absurd h (nb 3 (by decide))
  rename_i s y2 h2
  split at h
  · exact absurd h (nb 3 (by decide))
  rename_i r y3 h3
  split at h
  · exact absurd h (nb 3 (by decide))
  rename_i w y4 h4
  split at h
  · exact absurd h (nb 3 (by decide))
  rename_i n y5 h5
  unfold codeR at h
  split at h
  · exact absurd h (nb 2 (by decide))
  rename_i hn
  split at h
  · exact absurd h (nb 3 (by decide))
  rename_i zs' y6 h6
  unfold listsR at h
  split at h
  · exact absurd h (nb 3 (by decide))
  rename_i se y7 h7
  split at h
  · exact absurd h (nb 3 (by decide))
  rename_i pu y8 h8
  split at h
  · exact absurd h (nb 3 (by decide))
  rename_i ou y9 h9
  unfold endR at h
  split at h
  · exact absurd h (nb 4 (by decide))
  rename_i hend
  simp only [Prod.mk.injEq, true_and] at h
  obtain ⟨rfl, rfl⟩ := h
  obtain ⟨e1, _, _, b1⟩ := rdNum_back (hb.drop 4) h1
  obtain ⟨e2, _, _, b2⟩ := rdNum_back b1 h2
  obtain ⟨e3, _, _, b3⟩ := rdNum_back b2 h3
  obtain ⟨e4, _, _, b4⟩ := rdNum_back b3 h4
  obtain ⟨e5, n0, _, b5⟩ := rdNum_back b4 h5
  obtain ⟨e6, hz, hzb, b6⟩ := rdHalves_back b5 h6
  obtain ⟨e7, b7⟩ := rdList_back b6 h7
  obtain ⟨e8, b8⟩ := rdList_back b7 h8
  obtain ⟨e9, b9⟩ := rdList_back b8 h9
  simp only [not_or, Decidable.not_not, Bool.not_eq_false] at hend
  refine ⟨?_, hend.2, by omega, hzb⟩
  rw [put_eq, ← List.take_append_drop 4 bs, hpre', e1, e2, e3, e4, e5, e6, e7, e8, e9, hend.1]
  rw [show (zs'.length : Int) = n by omega]
/-! A beginning is too short. -/
theorem pre_split {α : Type} {p a b : List α} (h : p <+: a ++ b) (hne : p ≠ a ++ b) : (p <+: a ∧ p ≠ a) ∨ ∃ q, p = a ++ q ∧ q <+: b ∧ q ≠ b := by
  rcases Nat.lt_or_ge p.length a.length with hl | hl
  · refine .inl ⟨List.prefix_of_prefix_length_le h (List.prefix_append a b) (by omega), fun e => by subst e; omega⟩
  · obtain ⟨q, hq⟩ := List.prefix_of_prefix_length_le (List.prefix_append a b) h hl
    subst hq
    refine .inr ⟨q, rfl, (List.prefix_append_right_inj a).1 h, fun e => hne (by rw [e])⟩
theorem pre_lt {α : Type} {p a : List α} (h : p <+: a) (hne : p ≠ a) : p.length < a.length := by
  obtain ⟨t, rfl⟩ := h
  cases t with
  | nil => simp at hne
  | cons x t => simp
theorem rdNum_cut {k : Nat} {n : Int} {p : List Int} (h : p <+: fourT k n) (hne : p ≠ fourT k n) : rdNum k p = none := rdNum_no k p (by have := pre_lt h hne; rw [four_length] at this; exact this)
theorem rdName_cut {s : ByteArray} {p : List Int} (h : p <+: sbytes s) (hne : p ≠ sbytes s) : rdName s.size p = none := by
  unfold rdName
  rw [if_pos (by have := pre_lt h hne; rw [sbytes_len] at this; exact this)]
theorem rdCell_cut (c : TI) (hc : okC c = true) {p : List Int} (h : p <+: cellL c) (hne : p ≠ cellL c) : rdCell p = none := by
  obtain ⟨h1, h2, h3, h4⟩ := okC_of c hc
  have e : cellL c = fourT 1 (c.s.size : Int) ++ (sbytes c.s ++ fourT 4 c.n) := by unfold cellL; rw [← one_four _ (by omega) (by omega)]; simp
  rw [e] at h hne
  unfold rdCell
  rcases pre_split h hne with ⟨a, b⟩ | ⟨q, rfl, a, b⟩
  · rw [rdNum_cut a b]; rfl
  · rw [rdNum_yes 1 _ _ (by omega) (by omega), Option.bind_some]
    dsimp only
    rw [Int.toNat_natCast]
    rcases pre_split a b with ⟨a, b⟩ | ⟨q, rfl, a, b⟩
    · rw [rdName_cut a b]; rfl
    · rw [rdName_yes, Option.bind_some]
      dsimp only
      rw [rdNum_cut a b]; rfl
theorem rdCells_cut : ∀ (l : List TI) {p : List Int}, l.all okC = true → p <+: l.flatMap cellL → p ≠ l.flatMap cellL → rdCells l.length p = none
  | [], p, _, h, hne => absurd (by simpa using h) hne
  | c :: l, p, hc, h, hne => by
    simp only [List.all_cons, Bool.and_eq_true] at hc
    rw [List.flatMap_cons] at h hne
    rw [List.length_cons, rdCells]
    rcases pre_split h hne with ⟨a, b⟩ | ⟨q, rfl, a, b⟩
    · rw [rdCell_cut c hc.1 a b]; rfl
    · rw [rdCell_yes c _ hc.1, Option.bind_some]
      dsimp only
      rw [rdCells_cut l hc.2 a b]; rfl
theorem rdList_cut (l : List TI) (hl : cellsB l = true) {p : List Int} (h : p <+: listL l) (hne : p ≠ listL l) : rdList p = none := by
  obtain ⟨h1, h2⟩ := cellsB_of l hl
  have e : listL l = fourT 1 (l.length : Int) ++ l.flatMap cellL := by unfold listL; rw [← one_four _ (by omega) (by omega)]; simp
  rw [e] at h hne
  unfold rdList
  rcases pre_split h hne with ⟨a, b⟩ | ⟨q, rfl, a, b⟩
  · rw [rdNum_cut a b]; rfl
  · rw [rdNum_yes 1 _ _ (by omega) (by omega), Option.bind_some]
    dsimp only
    rw [Int.toNat_natCast, rdCells_cut l h1 a b]
theorem rdHalves_cut (zs : List Int) {p : List Int} (h : p <+: codeL zs) (hne : p ≠ codeL zs) : rdHalves zs.length p = none := by
  unfold rdHalves
  rw [if_pos (by have := pre_lt h hne; rw [code_len] at this; exact this)]
theorem take_cut (zs : List Int) (m : Man) (hm : canM m = true) (hl : zs.length ≤ 60000) (hz : ∀ z ∈ zs, 0 ≤ z ∧ z ≤ 65535) (p : List Int) (h : p <+: putL zs m) (hne : p ≠ putL zs m) : takeR p = bad 3 := by
  obtain ⟨⟨o0, o1⟩, ⟨s0, s1⟩, ⟨r0, r1⟩, ⟨w0, w1⟩, k4, k5, k6⟩ := nums_of m hm
  rw [put_eq] at h hne
  unfold takeR
  rcases pre_split h hne with ⟨a, b⟩ | ⟨q, rfl, a, b⟩
  · have hlt : p.length < 4 := pre_lt a b
    obtain ⟨t, ht⟩ := a
    rw [if_neg (by rw [List.take_of_length_le (by omega), ← ht, List.take_left]; simp), if_pos hlt]
  have hq : (msk1 ++ q).length ≥ 4 := by simp [msk1]
  rw [if_neg (by rw [take_msk, List.take_of_length_le (by exact hq)]; simp), if_neg (by omega), drop_msk]
  clear h hne hq
  unfold headR
  rcases pre_split a b with ⟨a, b⟩ | ⟨q, rfl, a, b⟩
  · rw [rdNum_cut a b]
  rw [rdNum_yes 4 _ _ o0 (by omega)]; dsimp only
  rcases pre_split a b with ⟨a, b⟩ | ⟨q, rfl, a, b⟩
  · rw [rdNum_cut a b]
  rw [rdNum_yes 4 _ _ s0 (by omega)]; dsimp only
  rcases pre_split a b with ⟨a, b⟩ | ⟨q, rfl, a, b⟩
  · rw [rdNum_cut a b]
  rw [rdNum_yes 4 _ _ r0 (by omega)]; dsimp only
  rcases pre_split a b with ⟨a, b⟩ | ⟨q, rfl, a, b⟩
  · rw [rdNum_cut a b]
  rw [rdNum_yes 4 _ _ w0 (by omega)]; dsimp only
  rcases pre_split a b with ⟨a, b⟩ | ⟨q, rfl, a, b⟩
  · rw [rdNum_cut a b]
  rw [rdNum_yes 4 _ _ (by omega) (by omega)]; dsimp only
  unfold codeR
  rw [if_neg (by omega), Int.toNat_natCast]
  rcases pre_split a b with ⟨a, b⟩ | ⟨q, rfl, a, b⟩
  · rw [rdHalves_cut zs a b]
  rw [rdHalves_yes zs _ hz]; dsimp only
  unfold listsR
  rcases pre_split a b with ⟨a, b⟩ | ⟨q, rfl, a, b⟩
  · rw [rdList_cut _ k4 a b]
  rw [rdList_yes _ _ k4]; dsimp only
  rcases pre_split a b with ⟨a, b⟩ | ⟨q, rfl, a, b⟩
  · rw [rdList_cut _ k5 a b]
  rw [rdList_yes _ _ k5]; dsimp only
  rcases pre_split a b with ⟨a, b⟩ | ⟨q, rfl, a, b⟩
  · rw [rdList_cut _ k6 a b]
  exact absurd (by simpa using a) b
end Go.Proofs.Ytgcmbleinobneaa.ImRef
