/- DERIVED. TxRd in one text. By an AI agent. -/
import Derived.Test.YtnngnfajmncjpaaGreatDoorZ09
import Derived.Test.YtnngnfajmncjpaaGreatDoorZ12
import Derived.Lib.AtoiAllCases
import Derived.Lib.SlicesS
/- DERIVED. The contract of a place's read: the number that a text tells is set. By an AI agent. -/
namespace Go.Proofs.YtnngnfajmncjpaaGreatDoor.Tx
open Go.ChangeShapes Go.WideShapes Go.ChangeAt Go.RowKit Go.Lib Go.Sort Args
set_option linter.unusedVariables false
/-- An instruction's block. -/
def InsB (b : Nat) (op : Int) (s : Nm) (w : World) : Prop := Blk w b 50 #[.int .i64 op, .int .i64 s.d, .int .i64 s.n, .int .i64 s.m, .int .i64 s.i]
theorem InsB.num {b : Nat} {op : Int} {s : Nm} {w : World} (h : InsB b op s w) (o : Nat) (ho : o < 4) : w.cell? ⟨b, 1 + o, none⟩ = some (.int .i64 (s.get o)) := by
  rw [Blk.cell h]
  have : o = 0 ∨ o = 1 ∨ o = 2 ∨ o = 3 := by omega
  rcases this with h | h | h | h <;> rw [h] <;> rfl
theorem InsB.set {b : Nat} {op : Int} {s : Nm} {w : World} (h : InsB b op s w) (o : Nat) (ho : o < 4) (v : Int) : InsB b op (s.set o v) (w.setCell ⟨b, 1 + o, none⟩ (.int .i64 v)) := by
  have h2 := Blk.set h (1 + o) (.int .i64 v)
  unfold InsB
  have : o = 0 ∨ o = 1 ∨ o = 2 ∨ o = 3 := by omega
  rcases this with h | h | h | h <;> (subst h; exact h2)
theorem get_set (s : Nm) (o : Nat) (ho : o < 4) (v : Int) : (s.set o v).get o = v := by
  have : o = 0 ∨ o = 1 ∨ o = 2 ∨ o = 3 := by omega
  rcases this with h | h | h | h <;> (subst h; rfl)
/-- How Atoi ends. -/
def AtEnd (l : Txt) (v : Int) (er : Value) : Prop := match atoiAll l with | .ok u => v = u ∧ er = .nilIface | _ => ∃ te pe, er = .iface te pe
theorem sat_bd (l : Txt) : -9223372036854775808 ≤ atoiSat l ∧ atoiSat l ≤ 9223372036854775807 := atoiSat_bounds l
theorem atoiC (l : Txt) (hl : l.length ≤ 1000000000) (w : World) (hL : Lw w) : Calls Tryz.prog 75 #[str l] w fun e w' => ∃ v er, e = .returned (.tuple #[.int .i64 v, er]) ∧ AtEnd l v er ∧ (-9223372036854775808 ≤ v ∧ v ≤ 9223372036854775807) ∧ Below w.heap.size w w' := by
  have hz : (⟨l.toArray⟩ : ByteArray).size = l.length := by simp [ByteArray.size]
  cases h : atoiAll l with
  | ok u =>
    refine (Tryz.strconv_Atoi_ok ⟨l.toArray⟩ (by rw [hz]; omega) u h w).mono ?_
    rintro e w' ⟨rfl, hw⟩
    refine ⟨u, .nilIface, rfl, by unfold AtEnd; rw [h]; exact ⟨rfl, rfl⟩, atoiAll_bounds h, ?_⟩
    rcases hw with rfl | ⟨t, rfl⟩
    · exact Below.refl _ _
    · exact bytesWorld_below w _ t
  | range =>
    obtain ⟨ev, hv, hev⟩ := hL.er
    refine (Tryz.strconv_Atoi_range ⟨l.toArray⟩ (by rw [hz]; omega) h _ w hv hev).mono ?_
    rintro e w' ⟨N, rfl, _, _, hb⟩
    exact ⟨_, _, rfl, by unfold AtEnd; rw [h]; exact ⟨_, _, rfl⟩, sat_bd l, hb⟩
  | _ =>
    obtain ⟨ev, hv, hev⟩ := hL.es
    refine (Tryz.strconv_Atoi_syntax ⟨l.toArray⟩ (by rw [hz]; omega) (fun v => by rw [show (⟨l.toArray⟩ : ByteArray).data.toList = l from rfl, h]; simp) (by rw [show (⟨l.toArray⟩ : ByteArray).data.toList = l from rfl, h]; simp) _ w hv hev).mono ?_
    rintro e w' ⟨N, rfl, _, _, hb⟩
    exact ⟨0, _, rfl, by unfold AtEnd; rw [h]; exact ⟨_, _, rfl⟩, by omega, hb⟩
theorem str_inj (a b : Txt) : (⟨a.toArray⟩ : ByteArray) = ⟨b.toArray⟩ ↔ a = b := by
  constructor
  · intro h
    have := congrArg (fun x => x.data.toList) h
    simpa using this
  · rintro rfl; rfl
/-- Where a word stands among words. -/
theorem idxOfS_of : ∀ (ws : List Txt) (t : Txt) (i : Nat), idxFromS (ws.map fun l => (⟨l.toArray⟩ : ByteArray)) ⟨t.toArray⟩ i = if ws.idxOf t < ws.length then ((i + ws.idxOf t : Nat) : Int) else -1
  | [], t, i => rfl
  | x :: ws, t, i => by
    rw [List.map_cons, idxFromS]
    by_cases h : x = t
    · subst h
      simp
    · have hne : ¬ (⟨x.toArray⟩ : ByteArray) = ⟨t.toArray⟩ := fun e => h ((str_inj _ _).1 e)
      have hi : (x :: ws).idxOf t = ws.idxOf t + 1 := by rw [List.idxOf_cons, show (x == t) = false by simpa using h]; rfl
      rw [if_neg hne, idxOfS_of ws t (i + 1), hi, List.length_cons]
      split
      · rw [if_pos (by omega)]; omega
      · rw [if_neg (by omega)]
def ixW (ws : List Txt) (t : Txt) : Int := if ws.idxOf t < ws.length then ((ws.idxOf t : Nat) : Int) else -1
theorem indexC (ws : List Txt) (hws : ws.length ≤ 16) (t : Txt) (n : Nat) (w : World) (hc : ∀ j u, (strs ws)[j]? = some u → w.cell? ⟨n, j, none⟩ = some u) :
    Calls Tryz.prog 74 #[.slice (some ⟨n, 0, none⟩) ws.length ws.length, .string ⟨t.toArray⟩] w fun e w' => e = .returned (.int .i64 (ixW ws t)) ∧ w = w' := by
  refine (Tryz.slices_Index_string n 0 ws.length ws.length (ws.map fun l => (⟨l.toArray⟩ : ByteArray)) ⟨t.toArray⟩ w (by simp) (by omega) (fun j hj => ?_)).mono ?_
  · have hjl : j < ws.length := by simpa using hj
    have := hc j (str ws[j]) (by unfold strs; rw [List.getElem?_map, List.getElem?_eq_getElem hjl]; rfl)
    rw [Nat.zero_add, this]
    simp [List.getElem?_eq_getElem hjl]
  · rintro e w' ⟨rfl, rfl⟩
    refine ⟨?_, rfl⟩
    rw [List.take_of_length_le (by simp), idxOfS, idxOfS_of ws t 0]
    unfold ixW
    simp
def cutB (t : Txt) (mark : UInt8) : Bool := match t with | [] => false | x :: _ => decide (x = mark)
def cutL (t : Txt) (mark : UInt8) : Txt := match t with | [] => [] | x :: r => if x = mark then r else x :: r
theorem cut_eq (t : Txt) (mark : UInt8) : trimPrefix t [mark] = cutL t mark ∧ hasPrefix t [mark] = cutB t mark := by
  cases t with
  | nil => exact ⟨rfl, rfl⟩
  | cons x r =>
    unfold trimPrefix hasPrefix cutL cutB
    by_cases h : x = mark
    · subst h; simp [List.isPrefixOf]
    · have h2 : ¬ mark = x := fun e => h e.symm
      simp [List.isPrefixOf, h, h2]
theorem num_cut (of times : Nat) (mark : UInt8) (t : Txt) : (Pl.mk of [] mark times).num t = if cutB t mark then (match atoiAll (cutL t mark) with | .ok v => some (v.tdiv times) | _ => none) else none := by
  unfold Pl.num
  rw [if_pos rfl]
  cases t with
  | nil => rfl
  | cons x r =>
    unfold cutB cutL
    by_cases h : x = mark
    · simp only [h, decide_true, if_true]
      cases atoiAll r <;> rfl
    · simp [h]
/-- What a read leaves. -/
def RdPost (p : Pl) (t : Txt) (b : Nat) (op : Int) (s : Nm) (w : World) (e : Ending) (w' : World) : Prop :=
  ∃ v, e = .returned (.bool (p.num t).isSome) ∧ (∀ x, p.num t = some x → v = x) ∧ InsB b op (s.set p.of v) w' ∧ Upd (· = b) w w'
theorem tdiv_in (v : Int) (h0 : -9223372036854775808 ≤ v) (h1 : v ≤ 9223372036854775807) (times : Nat) (ht : 1 ≤ times) : IntKind.i64.wrap (v.tdiv times) = v.tdiv times := by
  have h := Int.natAbs_tdiv_le_natAbs v times
  refine IntWalk.i64_in _ ?_
  by_cases hv : v < 0
  · have h2 := Int.tdiv_nonneg (by omega : 0 ≤ -v) (by omega : (0 : Int) ≤ times)
    rw [Int.neg_tdiv] at h2
    omega
  · have h2 := Int.tdiv_nonneg (by omega : 0 ≤ v) (by omega : (0 : Int) ≤ times)
    omega
set_option maxHeartbeats 4000000 in
set_option maxRecDepth 100000 in
theorem readW (of times : Nat) (ws : List Txt) (mark : UInt8) (hw : ws = aluW ∨ ws = cndW) (hof : of < 4) (b : Nat) (op : Int) (s : Nm) (t : Txt) (w : World) (hL : ∀ W, Below b w W → Lw W) (hI : InsB b op s w) :
    Calls Tryz.prog 53 #[plV b (some ⟨of, ws, mark, times⟩), .string ⟨t.toArray⟩] w (RdPost ⟨of, ws, mark, times⟩ t b op s w) := by
  have hbl : b < w.heap.size := Blk.lt hI
  have h0 : ws ≠ [] := by rcases hw with rfl | rfl <;> decide
  have hf : ∀ W, Lw W → Calls Tryz.prog 65 #[.string ⟨(joinW ws).toArray⟩] W fun e w' => ∃ n, e = .returned (.slice (some ⟨n, 0, none⟩) ws.length ws.length) ∧ (∀ j u, (strs ws)[j]? = some u → w'.cell? ⟨n, j, none⟩ = some u) ∧ Below W.heap.size W w' := fun W hW => fieldsN ws hw W hW
  have hln : ws.length ≤ 16 := by rcases hw with rfl | rfl <;> decide
  have hix := fun n W hc => indexC ws hln t n W hc
  have hne := joinW_ne hw
  have hm : (if ws = [] then [mark] else []) = ([] : Txt) := if_neg h0
  have hpl : plV b (some ⟨of, ws, mark, times⟩) = .agg #[.pointer (some ⟨b, 1 + of, none⟩), .string ⟨(joinW ws).toArray⟩, .string ⟨#[]⟩, .int .i64 times] := by unfold plV; simp only [hm]
  rw [hpl]
  have hres : ((Pl.mk of ws mark times).num t).isSome = decide (0 ≤ ixW ws t) ∧ ∀ x, (Pl.mk of ws mark times).num t = some x → ixW ws t = x := by
    unfold Pl.num ixW
    rw [if_neg h0]
    show (if ws.idxOf t < ws.length then some ((ws.idxOf t : Nat) : Int) else none).isSome = _ ∧ ∀ x, (if ws.idxOf t < ws.length then some ((ws.idxOf t : Nat) : Int) else none) = some x → _
    split
    · exact ⟨by simp, fun x hx => Option.some.inj hx⟩
    · exact ⟨by simp, fun x hx => by cases hx⟩
  have hixb : -1 ≤ ixW ws t ∧ ixW ws t ≤ 16 := by unfold ixW; split <;> omega
  generalize ixW ws t = IX at *
  generalize hT : (joinW ws).toArray = T at *
  have HF := Lib.hid hf; have HX := Lib.hid hix; have HR := Lib.hid hres
  have hI1 : InsB b op s (w.alloc (.cells #[.pointer (some ⟨b, 1 + of, none⟩), .string ⟨T⟩, .string ⟨#[]⟩, .int .i64 times] 95)) := Blk.alloc hI _
  have hb1 : Below w.heap.size w (w.alloc (.cells #[.pointer (some ⟨b, 1 + of, none⟩), .string ⟨T⟩, .string ⟨#[]⟩, .int .i64 times] 95)) := (Below.refl _ _).alloc (Nat.le_refl _) _
  have z0 : (w.alloc (.cells #[.pointer (some ⟨b, 1 + of, none⟩), .string ⟨T⟩, .string ⟨#[]⟩, .int .i64 times] 95)).cell? ⟨w.heap.size, 0, none⟩ = some (.pointer (some ⟨b, 1 + of, none⟩)) := World.cell?_alloc_at _ _ _ _ rfl
  have z1 : (w.alloc (.cells #[.pointer (some ⟨b, 1 + of, none⟩), .string ⟨T⟩, .string ⟨#[]⟩, .int .i64 times] 95)).cell? ⟨w.heap.size, 1, none⟩ = some (.string ⟨T⟩) := World.cell?_alloc_at _ _ _ _ rfl
  have hsz : w.heap.size < (w.alloc (.cells #[.pointer (some ⟨b, 1 + of, none⟩), .string ⟨T⟩, .string ⟨#[]⟩, .int .i64 times] 95)).heap.size := by simp
  have HI1 := Lib.hid hI1; have HB := Lib.hid hb1; have HL := Lib.hid hL
  clear hf hix hI hI1 hb1 hm hpl hT hres hL hw h0 hln
  go_enter Tryz.func53, Tryz.ntmps53
  go_wp2_with fail
  generalize w.alloc (.cells #[.pointer (some ⟨b, 1 + of, none⟩), .string ⟨T⟩, .string ⟨#[]⟩, .int .i64 times] 95) = w1 at *
  have hbl1 : b < w1.heap.size := Nat.lt_trans hbl hsz
  generalize hn0 : w.heap.size = n0 at *
  have HN0 := Lib.hid hn0
  clear hn0
  go_region_with
    ((first
      | (go_at_call 65; refine (HF.out _ (HL.out _ ((HB.out.mono (Nat.le_of_lt hbl)).drew))).mono ?_; rintro e w3 ⟨n, rfl, hx, hb3⟩; have y0 := (hb3.cell (p := ⟨n0, 0, none⟩) hsz).trans z0; have y1 := (hb3.cell (p := ⟨n0, 1, none⟩) hsz).trans z1; have hI3 : InsB b op s w3 := Blk.below (Blk.drew HI1.out) hb3 hbl1; have yb := InsB.num hI3 of hof; have yf := Blk.frozen hI3 (1 + of); have HX3 := Lib.hid hx; have HI3 := Lib.hid hI3; have HB3 : Hid (RowKit.Below n0 w w3) := Lib.hid (HB.out.drew.trans (hb3.mono (Nat.le_of_lt hsz))); clear hx hb3 hI3)
      | (go_at_call 74; refine (HX.out _ _ HX3.out).mono ?_; rintro e w' ⟨rfl, rfl⟩)))
  all_goals
    have hI4 := InsB.set HI3.out of hof IX
    have u0 : (w3.setCell ⟨b, 1 + of, none⟩ (.int .i64 IX)).cell? ⟨n0, 0, none⟩ = some (.pointer (some ⟨b, 1 + of, none⟩)) := (World.cell?_of_block (a := ⟨n0, 0, none⟩) (Below.heap_setCell w3 ⟨b, 1 + of, none⟩ _ n0 (by show n0 ≠ b; omega))).trans y0
    have ub := InsB.num hI4 of hof
    rw [get_set s of hof IX] at ub
    have hU : Upd (· = b) w (w3.setCell ⟨b, 1 + of, none⟩ (.int .i64 IX)) := (Upd.of_below (HN0.out ▸ HB3.out) (· = b)).setCell (fun _ => rfl) _
    have H4 := Lib.hid (And.intro hI4 hU)
    clear hI4 hU yb yf y0 y1
    generalize w3.setCell ⟨b, 1 + of, none⟩ (.int .i64 IX) = w4 at *
    go_wp2_with fail
    go_ret
    exact ⟨IX, by rw [HR.out.1]; rfl, HR.out.2, H4.out.1, H4.out.2⟩
set_option maxHeartbeats 4000000 in
set_option maxRecDepth 100000 in
theorem readN (of times : Nat) (mark : UInt8) (hof : of < 4) (ht1 : 1 ≤ times) (ht4 : times ≤ 4) (b : Nat) (op : Int) (s : Nm) (t : Txt) (htl : t.length ≤ 1000000) (w : World) (hL : ∀ W, Below b w W → Lw W) (hI : InsB b op s w) :
    Calls Tryz.prog 53 #[plV b (some ⟨of, [], mark, times⟩), .string ⟨t.toArray⟩] w (RdPost ⟨of, [], mark, times⟩ t b op s w) := by
  have hbl : b < w.heap.size := Blk.lt hI
  have hpl : plV b (some ⟨of, [], mark, times⟩) = .agg #[.pointer (some ⟨b, 1 + of, none⟩), .string ⟨#[]⟩, .string ⟨#[mark]⟩, .int .i64 times] := rfl
  rw [hpl]
  have hnc := num_cut of times mark t
  obtain ⟨c1, c2⟩ := cut_eq t mark
  have hcp := fun W => Tryz.strings_CutPrefix ⟨t.toArray⟩ ⟨#[mark]⟩ W
  have hcp2 : ∀ W, Calls Tryz.prog 22 #[.string ⟨t.toArray⟩, .string ⟨#[mark]⟩] W fun e w' => e = .returned (.tuple #[.string ⟨(cutL t mark).toArray⟩, .bool (cutB t mark)]) ∧ W = w' := fun W => (hcp W).mono fun e w' ⟨h1, h2⟩ => ⟨by rw [h1]; show Ending.returned (.tuple #[.string ⟨(trimPrefix t [mark]).toArray⟩, .bool (hasPrefix t [mark])]) = _; rw [c1, c2], h2.symm⟩
  have hcl : (cutL t mark).length ≤ 1000000 := by
    unfold cutL
    cases t with
    | nil => simp
    | cons x r =>
      simp only
      split
      · simp at htl; omega
      · exact htl
  have hat := fun W hW => atoiC (cutL t mark) (by omega) W hW
  generalize hN : (Pl.mk of [] mark times).num t = N at hnc
  have HN := Lib.hid hN
  clear hcp c1 c2 hcl hpl hN
  generalize cutL t mark = l at *
  generalize cutB t mark = hp at *
  have hI1 : InsB b op s (w.alloc (.cells #[.pointer (some ⟨b, 1 + of, none⟩), .string ⟨#[]⟩, .string ⟨#[mark]⟩, .int .i64 times] 95)) := Blk.alloc hI _
  have hb1 : Below w.heap.size w (w.alloc (.cells #[.pointer (some ⟨b, 1 + of, none⟩), .string ⟨#[]⟩, .string ⟨#[mark]⟩, .int .i64 times] 95)) := (Below.refl _ _).alloc (Nat.le_refl _) _
  have hz : ∀ j, (w.alloc (.cells #[.pointer (some ⟨b, 1 + of, none⟩), .string ⟨#[]⟩, .string ⟨#[mark]⟩, .int .i64 times] 95)).cell? ⟨w.heap.size, j, none⟩ = (#[.pointer (some ⟨b, 1 + of, none⟩), .string ⟨#[]⟩, .string ⟨#[mark]⟩, .int .i64 times] : Array Value)[j]? := fun j => World.cell?_alloc_at _ _ _ _ rfl
  have hsz : w.heap.size < (w.alloc (.cells #[.pointer (some ⟨b, 1 + of, none⟩), .string ⟨#[]⟩, .string ⟨#[mark]⟩, .int .i64 times] 95)).heap.size := by simp
  have HNC := Lib.hid hnc
  clear hnc
  have HI1 := Lib.hid hI1; have HB := Lib.hid hb1; have HL := Lib.hid hL; have HC := Lib.hid hcp2; have HA := Lib.hid hat; have HZ := Lib.hid hz
  clear hI hI1 hb1 hL hcp2 hat hz
  go_enter Tryz.func53, Tryz.ntmps53
  go_wp2_with fail
  generalize w.alloc (.cells #[.pointer (some ⟨b, 1 + of, none⟩), .string ⟨#[]⟩, .string ⟨#[mark]⟩, .int .i64 times] 95) = w1 at *
  refine (HC.out _).mono ?_; rintro e w' ⟨rfl, rfl⟩
  generalize hn0 : w.heap.size = n0 at *
  have HN0 := Lib.hid hn0
  clear hn0
  go_wp2_with fail
  refine (HA.out _ (HL.out _ (HB.out.mono (Nat.le_of_lt hbl)))).mono ?_
  rintro e w3 ⟨v, er, rfl, hae, ⟨v0, v1⟩, hb3⟩
  have y0 := (hb3.cell (p := ⟨n0, 0, none⟩) hsz).trans (HZ.out 0)
  have y3 := (hb3.cell (p := ⟨n0, 3, none⟩) hsz).trans (HZ.out 3)
  simp only [List.getElem?_toArray, List.getElem?_cons_zero, List.getElem?_cons_succ] at y0 y3
  have hbl1 : b < w1.heap.size := Nat.lt_trans hbl hsz
  have hI3 : InsB b op s w3 := Blk.below HI1.out hb3 hbl1
  have yb := InsB.num hI3 of hof
  have yf := Blk.frozen hI3 (1 + of)
  have hti := tdiv_in v v0 v1 times ht1
  have HI3 := Lib.hid hI3; have HB3 : Hid (RowKit.Below n0 w w3) := Lib.hid (HB.out.trans (hb3.mono (Nat.le_of_lt hsz))); have HAE := Lib.hid hae
  have htn : (times : Int) ≠ 0 := by omega
  have her : (er = .nilIface ∧ atoiAll l = .ok v) ∨ ((∃ te pe, er = .iface te pe) ∧ ∀ u, atoiAll l ≠ .ok u) := by
    unfold AtEnd at hae
    cases h : atoiAll l with
    | ok u => rw [h] at hae; obtain ⟨rfl, rfl⟩ := hae; exact Or.inl ⟨rfl, rfl⟩
    | _ => rw [h] at hae; exact Or.inr ⟨hae, fun u e => by cases e⟩
  have HER := Lib.hid her
  have hne : n0 ≠ b := by omega
  clear hae hb3 hI3 her HAE
  go_wp2_with fail
  go_region
  all_goals
    have hI4 := InsB.set HI3.out of hof (v.tdiv times)
    have u0 : (w3.setCell ⟨b, 1 + of, none⟩ (.int .i64 (v.tdiv times))).cell? ⟨n0, 0, none⟩ = some (.pointer (some ⟨b, 1 + of, none⟩)) := (World.cell?_of_block (a := ⟨n0, 0, none⟩) (Below.heap_setCell w3 ⟨b, 1 + of, none⟩ _ n0 (by show n0 ≠ b; omega))).trans y0
    have hU : Upd (· = b) w (w3.setCell ⟨b, 1 + of, none⟩ (.int .i64 (v.tdiv times))) := (Upd.of_below (HN0.out ▸ HB3.out) (· = b)).setCell (fun _ => rfl) _
    have H4 := Lib.hid (And.intro hI4 hU)
    clear hI4 hU yb yf y0 y3
    generalize w3.setCell ⟨b, 1 + of, none⟩ (.int .i64 (v.tdiv times)) = w4 at *
    have fin : ∀ (o : Bool), o = N.isSome → RdPost ⟨of, [], mark, times⟩ t b op s w (.returned (.bool o)) w4.drew := fun o ho => by
      unfold RdPost
      rw [HN.out]
      refine ⟨v.tdiv times, by rw [ho], fun y hy => ?_, H4.out.1, H4.out.2.drew⟩
      rw [HNC.out] at hy
      cases hp with
      | false => cases hy
      | true =>
        simp only [if_true] at hy
        rcases HER.out with ⟨_, h⟩ | ⟨_, h⟩
        · rw [h] at hy; exact Option.some.inj hy
        · cases hq : atoiAll l with
          | ok u => exact absurd hq (h u)
          | _ => rw [hq] at hy; cases hy
    have FIN := Lib.hid fin
    clear fin
    rcases HER.out with ⟨rfl, h⟩ | ⟨⟨te, pe, rfl⟩, h⟩
    · have HH := Lib.hid h
      clear h HER
      cases hp with
      | true =>
        go_wp2_with fail
        go_ret
        exact FIN.out true (by rw [HNC.out]; simp [HH.out])
      | false =>
        go_wp2_with fail
        go_ret
        exact FIN.out false (by rw [HNC.out]; simp)
    · have HH := Lib.hid h
      clear h HER
      cases hp with
      | true =>
        go_wp2_with fail
        go_ret
        exact FIN.out false (by
          rw [HNC.out]
          cases hq : atoiAll l with
          | ok u => exact absurd hq (HH.out u)
          | _ => simp)
      | false =>
        go_wp2_with fail
        go_ret
        exact FIN.out false (by rw [HNC.out]; simp)
end Go.Proofs.YtnngnfajmncjpaaGreatDoor.Tx
