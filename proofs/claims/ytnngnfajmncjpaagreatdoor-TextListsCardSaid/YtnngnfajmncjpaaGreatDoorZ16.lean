/- DERIVED. TxRead in one text. By an AI agent. -/
import Derived.Test.YtnngnfajmncjpaaGreatDoorZ13
import Derived.Test.YtnngnfajmncjpaaGreatDoorZ15
import Derived.Lib.IndexAny
import Derived.Laws.Runes
import Derived.StillTailTactics
/- DERIVED. The contract of the program's read: the one instruction of a shape whose text a text may be. By an AI agent. -/
namespace Go.Proofs.YtnngnfajmncjpaaGreatDoor.Tx
open Go.ChangeShapes Go.WideShapes Go.ChangeAt Go.RowKit Go.Lib Go.Sort Args
set_option linter.unusedVariables false
def stpT : Txt := [32, 44, 93]
def ixL (t : Txt) : Int := indexAny t stpT
theorem stp_in (x : UInt8) : stpT.contains x = stp x := by
  unfold stpT stp
  simp only [List.contains_cons, List.contains_nil, Bool.or_false]
  rw [Bool.or_assoc]
theorem ix_take : ∀ t : Txt, -1 ≤ ixL t ∧ ixL t ≤ t.length ∧ t.take (if ixL t < 0 then t.length else (ixL t).toNat) = (t.takeWhile fun x => !stp x) ∧ t.drop (if ixL t < 0 then t.length else (ixL t).toNat) = (t.dropWhile fun x => !stp x)
  | [] => ⟨by decide, by decide, rfl, rfl⟩
  | b :: l => by
    obtain ⟨h1, h2, h3, h4⟩ := ix_take l
    have e : ixL (b :: l) = if stp b then 0 else if ixL l == -1 then -1 else ixL l + 1 := by
      show (if stpT.contains b then (0 : Int) else if indexAny l stpT == -1 then -1 else indexAny l stpT + 1) = _
      rw [stp_in]; rfl
    rw [e]
    by_cases hb : stp b = true
    · rw [hb]; simp [hb]; omega
    · have hb2 : stp b = false := by simpa using hb
      rw [hb2]
      by_cases hm : ixL l = -1
      · rw [hm] at h3 h4
        simp only [show ((-1 : Int) < 0) = True by simp, if_true, List.take_length, List.drop_length] at h3 h4
        have hq : (ixL l == -1) = true := by simpa using hm
        simp only [Bool.false_eq_true, if_false, hq, if_true, show ((-1 : Int) < 0) = True by simp, List.length_cons, List.takeWhile_cons, List.dropWhile_cons, hb2, Bool.not_false]
        exact ⟨by omega, by omega, by rw [← h3]; simp, by rw [← h4]; simp⟩
      · have hp : ¬ ixL l < 0 := by omega
        rw [if_neg hp] at h3 h4
        have hq : (ixL l == -1) = false := by simpa using hm
        simp only [Bool.false_eq_true, if_false, hq, List.length_cons, List.takeWhile_cons, List.dropWhile_cons, hb2, Bool.not_false, if_true]
        rw [if_neg (by omega), show (ixL l + 1).toNat = (ixL l).toNat + 1 by omega]
        exact ⟨by omega, by omega, by rw [List.take_succ_cons, h3], by rw [List.drop_succ_cons, h4]⟩
/-- IndexAny answers so at each end of the text. -/
def IxOK (l : Txt) : Prop := ∀ (j : Nat) (W : World), Calls Tryz.prog 52 #[.string ⟨(l.drop j).toArray⟩, .string ⟨#[32, 44, 93]⟩] W fun e w' => e = .returned (.int .i64 (ixL (l.drop j))) ∧ Below W.heap.size W w'
theorem ix_ascii (l : Txt) (hl : l.length ≤ 1000000) (ha : ∀ x ∈ l, x.toNat < 128) : IxOK l := fun j W => by
  have hz : (⟨(l.drop j).toArray⟩ : ByteArray).size < 4294967281 := by show (l.drop j).toArray.size < _; simp; omega
  exact Tryz.strings_IndexAny_laid ⟨(l.drop j).toArray⟩ ⟨#[32, 44, 93]⟩ W hz (by decide) (fun i b hb => ha b (List.mem_of_mem_drop (List.mem_of_getElem? hb))) (asciiB [32, 44, 93] (by decide))
theorem enc_ascii (c : UInt8) (hc : c.toNat < 128) : Utf8.encode (c.toNat : Int) = ⟨#[c]⟩ := by
  have H : ∀ i : Fin 128, Utf8.encode (i.val : Int) = ⟨#[UInt8.ofNat i.val]⟩ := by decide +kernel
  have h := H ⟨c.toNat, hc⟩
  simp only at h
  rw [h]
  simp
/-- What the program's read leaves. -/
def RdEnd (res : Option Nm) (op : Int) (w : World) (e : Ending) (w' : World) : Prop :=
  ∃ (o : Int) (s : Nm) (b : Bool), e = .returned (.tuple #[.agg #[.int .i64 o, .int .i64 s.d, .int .i64 s.n, .int .i64 s.m, .int .i64 s.i], .bool b]) ∧ b = res.isSome ∧ (∀ x, res = some x → o = op ∧ s = x) ∧ Below w.heap.size w w'
theorem rd_lit (c : UInt8) (r t : Txt) (s : Nm) (h : plc c = none) : rd (c :: r) t s = if cutB t c then rd r (cutL t c) s else none := by
  rw [rd.eq_def]
  simp only [h]
  cases t with
  | nil => rfl
  | cons x t' =>
    unfold cutB cutL
    by_cases hx : x = c
    · simp [hx]
    · simp [hx]
theorem rd_plc (c : UInt8) (r t : Txt) (s : Nm) (p : Pl) (h : plc c = some p) : rd (c :: r) t s = match p.num (t.take (if ixL t < 0 then t.length else (ixL t).toNat)) with | some v => rd r (t.drop (if ixL t < 0 then t.length else (ixL t).toNat)) (s.set p.of v) | none => none := by
  obtain ⟨_, _, h3, h4⟩ := ix_take t
  rw [h3, h4, rd.eq_def]
  simp only [h]
  cases p.num (t.takeWhile fun x => !stp x) <;> rfl
theorem lw_upd {w0 w : World} (hL : Lw w0) (hb : Below w0.heap.size w0 w) {b : Nat} (hn : w0.heap.size ≤ b) (hbw : b ≤ w.heap.size) : ∀ W, Below b w W → Lw W := fun W h => hL.below (hb.trans (h.mono hn))
theorem blk5 {g : Nat} {T : TypeId} {a b c d e : Value} {w : World} (h : Blk w g T #[a, b, c, d, e]) (a' b' c' d' e' : Value) :
    Blk (((((w.setCell ⟨g, 0, none⟩ a').setCell ⟨g, 1, none⟩ b').setCell ⟨g, 2, none⟩ c').setCell ⟨g, 3, none⟩ d').setCell ⟨g, 4, none⟩ e') g T #[a', b', c', d', e'] := by
  have h0 := Blk.set h 0 a'
  have h1 := Blk.set h0 1 b'
  have h2 := Blk.set h1 2 c'
  have h3 := Blk.set h2 3 d'
  have h4 := Blk.set h3 4 e'
  exact h4
/-- What holds in each round: the instruction, the answer's place, the iterator, and what lay below. -/
structure RdInv (n0 : Nat) (op : Int) (st : Nm) (S : ByteArray) (k : Nat) (w wr : World) : Prop where
  ins : InsB (n0 + 1) op st wr
  res : Blk wr n0 50 #[.int .i64 0, .int .i64 0, .int .i64 0, .int .i64 0, .int .i64 0]
  it : wr.heap[n0 + 1 + 1]? = some (.stringIter S k)
  low : Below n0 w wr
theorem RdInv.lt {n0 : Nat} {op : Int} {st : Nm} {S : ByteArray} {k : Nat} {w wr : World} (h : RdInv n0 op st S k w wr) : n0 + 1 + 1 < wr.heap.size := (Array.getElem?_eq_some_iff.1 h.it).1
theorem RdInv.below {n0 : Nat} {op : Int} {st : Nm} {S : ByteArray} {k : Nat} {w wr w' : World} (h : RdInv n0 op st S k w wr) (hb : Below wr.heap.size wr w') : RdInv n0 op st S k w w' :=
  have hz := h.lt
  ⟨Blk.below h.ins hb (by omega), Blk.below h.res hb (by omega), (hb.block _ hz).trans h.it, h.low.trans (hb.mono (by omega))⟩
theorem RdInv.next {n0 : Nat} {op : Int} {st : Nm} {S : ByteArray} {k : Nat} {w wr : World} (h : RdInv n0 op st S k w wr) (k' : Nat) : RdInv n0 op st S k' w (wr.iterAt (n0 + 1 + 1) S k') :=
  ⟨(iterAt_other wr _ _ S k' (by omega)).trans h.ins, (iterAt_other wr _ _ S k' (by omega)).trans h.res, iterAt_heap wr _ S k k' h.it, below_iterAt h.low (by omega) S k'⟩
theorem RdInv.upd {n0 : Nat} {op : Int} {st st' : Nm} {S : ByteArray} {k : Nat} {w wr w' : World} (h : RdInv n0 op st S k w wr) (hi : InsB (n0 + 1) op st' w') (hu : Upd (· = n0 + 1) wr w') : RdInv n0 op st' S k w w' :=
  have hz := h.lt
  ⟨hi, Blk.upd h.res hu (by omega), (hu.block _ hz (by omega)).trans h.it, h.low.trans (hu.below (by omega) (fun q hq => by omega))⟩
theorem RdInv.drew {n0 : Nat} {op : Int} {st : Nm} {S : ByteArray} {k : Nat} {w wr : World} (h : RdInv n0 op st S k w wr) : RdInv n0 op st S k w wr.drew := ⟨h.ins, h.res, h.it, h.low.drew⟩
theorem ext_take (a : Txt) (en : Nat) : (⟨a.toArray⟩ : ByteArray).extract 0 en = ⟨(a.take en).toArray⟩ := by
  apply ByteArray.ext
  apply Array.toList_inj.1
  rw [extract_from_zero]
theorem ext_drop (a : Txt) (en : Nat) : (⟨a.toArray⟩ : ByteArray).extract en (⟨a.toArray⟩ : ByteArray).size = ⟨(a.drop en).toArray⟩ := by
  apply ByteArray.ext
  apply Array.toList_inj.1
  rw [ByteArray.data_extract]
  simp [ByteArray.size]
  exact List.take_of_length_le (by simp)
theorem ext_self (S : ByteArray) (n : Nat) : S.extract n n = ByteArray.empty := by
  apply ByteArray.ext
  rw [ByteArray.data_extract]
  simp
  omega
theorem slice_to (S : ByteArray) (en : Nat) (h : en ≤ S.size) (W : World) : (Instr.slice 9 (.string S) none (some (.int .i64 (en : Int))) none).run Tryz.prog W = .ok (.string (S.extract 0 en)) W := by
  rw [run_slice_string_to_if W 9 S .i64 en Tryz.underlying9, if_pos ⟨by omega, by omega⟩, Int.toNat_natCast]
theorem slice_from (S : ByteArray) (en : Nat) (h : en ≤ S.size) (W : World) : (Instr.slice 9 (.string S) (some (.int .i64 (en : Int))) none none).run Tryz.prog W = .ok (.string (S.extract en S.size)) W := by
  rw [run_slice_string_from_if W 9 S .i64 en Tryz.underlying9, if_pos ⟨by omega, by omega⟩, Int.toNat_natCast]
theorem cut_true {t : Txt} {x : UInt8} (h : cutB t x = true) : cutL t x = t.drop 1 := by
  cases t with
  | nil => cases h
  | cons y r =>
    unfold cutB at h
    have hy : y = x := by simpa using h
    unfold cutL
    simp [hy]
set_option maxHeartbeats 8000000 in
set_option maxRecDepth 100000 in
theorem readC (sh : Txt) (hsh : ∀ c ∈ sh, c.toNat < 128) (hsl : sh.length ≤ 100) (op : Int) (l : Txt) (hl : l.length ≤ 1000000) (hix : IxOK l) (w : World) (hL : Lw w) :
    Calls Tryz.prog 30 #[.int .i64 op, .string ⟨sh.toArray⟩, .string ⟨l.toArray⟩] w (RdEnd (rd sh l Nm.nul) op w) := by
  have HSH := Lib.hid hsh; have HIX := Lib.hid hix; have HL := Lib.hid hL
  clear hsh hix hL
  go_enter Tryz.func30, Tryz.ntmps30
  go_wp2_with fail
  have hst : RdInv w.heap.size op Nm.nul ⟨sh.toArray⟩ 0 w (((w.alloc (.cells #[.int .i64 0, .int .i64 0, .int .i64 0, .int .i64 0, .int .i64 0] 50)).alloc (.cells #[.int .i64 op, .int .i64 0, .int .i64 0, .int .i64 0, .int .i64 0] 50)).iter ⟨sh.toArray⟩ 0) := by
    have b0 := Blk.new w 50 #[.int .i64 0, .int .i64 0, .int .i64 0, .int .i64 0, .int .i64 0]
    have b1 := Blk.new (w.alloc (.cells #[.int .i64 0, .int .i64 0, .int .i64 0, .int .i64 0, .int .i64 0] 50)) 50 #[.int .i64 op, .int .i64 0, .int .i64 0, .int .i64 0, .int .i64 0]
    rw [World.size_alloc] at b1
    have it := World.iter_heap ((w.alloc (.cells #[.int .i64 0, .int .i64 0, .int .i64 0, .int .i64 0, .int .i64 0] 50)).alloc (.cells #[.int .i64 op, .int .i64 0, .int .i64 0, .int .i64 0, .int .i64 0] 50)) ⟨sh.toArray⟩ 0
    rw [World.size_alloc, World.size_alloc] at it
    exact ⟨Blk.alloc b1 _, Blk.alloc (Blk.alloc b0 _) _, it, (((Below.refl _ _).alloc (Nat.le_refl _) _).alloc (by simp) _).alloc (by simp; omega) _⟩
  have HST := Lib.hid hst
  clear hst
  generalize (((w.alloc (.cells #[.int .i64 0, .int .i64 0, .int .i64 0, .int .i64 0, .int .i64 0] 50)).alloc (.cells #[.int .i64 op, .int .i64 0, .int .i64 0, .int .i64 0, .int .i64 0] 50)).iter ⟨sh.toArray⟩ 0) = w2 at *
  generalize hn0 : w.heap.size = n0 at *
  have hLw : ∀ W, Below n0 w W → Lw W := fun W hb => HL.out.below (hn0 ▸ hb)
  have hfin : ∀ (o : Int) (x : Nm) (b : Bool) (W : World), b = (rd sh l Nm.nul).isSome → (∀ y, rd sh l Nm.nul = some y → o = op ∧ x = y) → Below n0 w W → RdEnd (rd sh l Nm.nul) op w (.returned (.tuple #[.agg #[.int .i64 o, .int .i64 x.d, .int .i64 x.n, .int .i64 x.m, .int .i64 x.i], .bool b])) W := fun o x b W h1 h2 h3 => ⟨o, x, b, rfl, h1, h2, hn0 ▸ h3⟩
  have HLW := Lib.hid hLw; have HF := Lib.hid hfin
  clear hLw hn0 hfin
  go_loopg [2] sh.length (fun g vs wr => ∃ (k j : Nat) (st : Nm), g = sh.length - k ∧ k ≤ sh.length ∧ vs = .string ⟨(l.drop j).toArray⟩ ∧ Hid (rd (sh.drop k) (l.drop j) st = rd sh l Nm.nul ∧ RdInv n0 op st ⟨sh.toArray⟩ k w wr))
  case atStart => exact ⟨0, 0, Nm.nul, by omega, by omega, rfl, Lib.hid ⟨rfl, HST.out⟩⟩
  case round =>
    obtain ⟨k, j, st, rfl, hk, rfl, HH⟩ := hrel
    clear HST
    have hsz := HH.out.2.lt
    have hlj : (l.drop j).length ≤ 1000000 := by rw [List.length_drop]; omega
    by_cases hlt : k < sh.length
    · have hxm : sh[k] ∈ sh := List.getElem_mem hlt
      have hdk : sh.drop k = sh[k] :: sh.drop (k + 1) := List.drop_eq_getElem_cons hlt
      have hasc := HSH.out _ hxm
      have hbyte : ∀ h : k < (⟨sh.toArray⟩ : ByteArray).size, ((⟨sh.toArray⟩ : ByteArray)[k]'h) = sh[k] := fun h => by
        show sh.toArray[k] = _
        simp
      have hnx : ∀ ty, (Instr.next (.pointer (some ⟨n0 + 1 + 1, 0, none⟩)) true ty).run Tryz.prog wr = .ok (.tuple #[.bool true, .int .i64 k, .int .i32 (sh[k].toNat : Int)]) (wr.iterAt (n0 + 1 + 1) ⟨sh.toArray⟩ (k + 1)) := fun ty => by
        have h := run_next_ascii_at (P := Tryz.prog) wr (n0 + 1 + 1) ⟨sh.toArray⟩ k ty HH.out.2.it (by simpa [ByteArray.size] using hlt) (by rw [hbyte]; exact hasc)
        rw [hbyte] at h
        exact h
      have hI2 := HH.out.2.next (k + 1)
      have hrd := HH.out.1
      rw [hdk] at hrd
      generalize wr.iterAt (n0 + 1 + 1) ⟨sh.toArray⟩ (k + 1) = wi at *
      generalize sh[k] = x at *
      have hpx := placeOf (n0 + 1) x hasc wi
      have H2 := Lib.hid hI2; have HASC := Lib.hid hasc
      clear hxm hdk hI2 hbyte hasc
      cases hpc : plc x with
      | none =>
        rw [hpc] at hpx
        simp only [plV, Option.isSome_none] at hpx
        rw [rd_lit x _ _ st hpc] at hrd
        have henc := enc_ascii x HASC.out
        have hcp : ∀ W, Calls Tryz.prog 22 #[.string ⟨(l.drop j).toArray⟩, .string ⟨#[x]⟩] W fun e w' => e = .returned (.tuple #[.string ⟨(cutL (l.drop j) x).toArray⟩, .bool (cutB (l.drop j) x)]) ∧ W = w' := fun W => (Tryz.strings_CutPrefix ⟨(l.drop j).toArray⟩ ⟨#[x]⟩ W).mono fun e w' ⟨h1, h2⟩ => ⟨by
          obtain ⟨c1, c2⟩ := cut_eq (l.drop j) x
          rw [h1]; show Ending.returned (.tuple #[.string ⟨(trimPrefix (l.drop j) [x]).toArray⟩, .bool (hasPrefix (l.drop j) [x])]) = _; rw [c1, c2], h2.symm⟩
        have HP := Lib.hid hpx; have HC := Lib.hid hcp; have HRD := Lib.hid hrd
        clear hpx hpc hcp hrd
        go_wp2_with fail
        refine HP.out.mono ?_
        rintro e W2 ⟨rfl, hb2⟩
        have hW := fun W hb => (H2.out.below hb2).below (w' := W) hb
        have HW := Lib.hid hW
        clear hW hb2
        go_wp2_with fail
        refine (HC.out _).mono ?_
        rintro e w' ⟨rfl, rfl⟩
        obtain ⟨W5, hW5⟩ : ∃ W5, W5 = W2.alloc (.cells #[.pointer none, .string ⟨#[]⟩, .string ⟨#[]⟩, .int .i64 0] 95) := ⟨_, rfl⟩
        rw [← hW5]
        have H5 := Lib.hid (HW.out W5 (by rw [hW5]; exact (Below.refl _ _).alloc (Nat.le_refl _) _))
        clear hW5 HW
        cases hcb : cutB (l.drop j) x with
        | true =>
          have hr2 := HRD.out
          rw [hcb, if_pos rfl, cut_true hcb, List.drop_drop] at hr2
          have hcl := cut_true hcb
          rw [List.drop_drop] at hcl
          have HR2 := Lib.hid (And.intro hr2 hcl)
          clear hr2 hcl hcb HRD
          go_wp2_with fail
          go_roundg (sh.length - (k + 1))
          case measure => omega
          case rel => exact ⟨k + 1, j + 1, st, rfl, by omega, by rw [HR2.out.2], Lib.hid ⟨HR2.out.1, H5.out⟩⟩
        | false =>
          have hr2 := HRD.out
          rw [hcb, if_neg (by simp)] at hr2
          have HR2 := Lib.hid hr2
          have HE := Lib.hid (blk5 H5.out.res (.int .i64 0) (.int .i64 0) (.int .i64 0) (.int .i64 0) (.int .i64 0))
          have r0 := H5.out.res.cell 0; have r1 := H5.out.res.cell 1; have r2 := H5.out.res.cell 2; have r3 := H5.out.res.cell 3; have r4 := H5.out.res.cell 4
          have f0 := H5.out.res.frozen 0; have f1 := H5.out.res.frozen 1; have f2 := H5.out.res.frozen 2; have f3 := H5.out.res.frozen 3; have f4 := H5.out.res.frozen 4
          simp only [List.getElem?_toArray, List.getElem?_cons_zero, List.getElem?_cons_succ] at r0 r1 r2 r3 r4
          clear hr2 hcb HRD
          go_wp2_with fail
          have hlo : Below n0 w (((((W5.setCell ⟨n0, 0, none⟩ (.int .i64 0)).setCell ⟨n0, 1, none⟩ (.int .i64 0)).setCell ⟨n0, 2, none⟩ (.int .i64 0)).setCell ⟨n0, 3, none⟩ (.int .i64 0)).setCell ⟨n0, 4, none⟩ (.int .i64 0)) := (((((H5.out.low.setCell (p := ⟨n0, 0, none⟩) (Nat.le_refl _) _).setCell (p := ⟨n0, 1, none⟩) (Nat.le_refl _) _).setCell (p := ⟨n0, 2, none⟩) (Nat.le_refl _) _).setCell (p := ⟨n0, 3, none⟩) (Nat.le_refl _) _).setCell (p := ⟨n0, 4, none⟩) (Nat.le_refl _) _)
          have hE := HE.out
          clear r0 r1 r2 r3 r4 f0 f1 f2 f3 f4 HE
          generalize (((((W5.setCell ⟨n0, 0, none⟩ (.int .i64 0)).setCell ⟨n0, 1, none⟩ (.int .i64 0)).setCell ⟨n0, 2, none⟩ (.int .i64 0)).setCell ⟨n0, 3, none⟩ (.int .i64 0)).setCell ⟨n0, 4, none⟩ (.int .i64 0)) = W6 at *
          have s0 := hE.cell 0; have s1 := hE.cell 1; have s2 := hE.cell 2; have s3 := hE.cell 3; have s4 := hE.cell 4
          simp only [List.getElem?_toArray, List.getElem?_cons_zero, List.getElem?_cons_succ] at s0 s1 s2 s3 s4
          exact bodyPost_ret (v := .tuple #[.agg #[.int .i64 0, .int .i64 0, .int .i64 0, .int .i64 0, .int .i64 0], .bool false]) (by simp [results, Tryz.results30, go_sem, s0, s1, s2, s3, s4]) rfl (HF.out 0 Nm.nul false W6 (by rw [← HR2.out]; rfl) (fun y hy => by rw [← HR2.out] at hy; cases hy) hlo)
      | some p =>
        obtain ⟨hof, htm⟩ := plc_of hpc
        have hws := plc_ws hpc
        have ht1 : p.ws = [] → 1 ≤ p.times := by
          intro he
          unfold plc at hpc
          repeat' (split at hpc)
          all_goals first | (cases hpc; first | decide | exact absurd he (by decide)) | cases hpc
        rw [hpc] at hpx
        simp only [plV, Option.isSome_some] at hpx
        rw [rd_plc x _ _ st p hpc] at hrd
        have hixc := HIX.out j
        obtain ⟨i0, i1, _, _⟩ := ix_take (l.drop j)
        have hrdc : ∀ (en : Nat) (W : World) (hLW : ∀ W', Below (n0 + 1) W W' → Lw W') (hIW : InsB (n0 + 1) op st W), Calls Tryz.prog 53 #[.agg #[.pointer (some ⟨n0 + 1, 1 + p.of, none⟩), .string ⟨(joinW p.ws).toArray⟩, .string ⟨(if p.ws = [] then [p.mark] else []).toArray⟩, .int .i64 p.times], .string ⟨((l.drop j).take en).toArray⟩] W (RdPost p ((l.drop j).take en) (n0 + 1) op st W) := fun en W hLW hIW => by
          obtain ⟨of, ws, mark, times⟩ := p
          by_cases hw : ws = []
          · subst hw
            exact readN of times mark hof (ht1 rfl) htm (n0 + 1) op st _ (by rw [List.length_take]; omega) W hLW hIW
          · exact readW of times ws mark (hws.resolve_left hw) hof (n0 + 1) op st _ W hLW hIW
        have HP := Lib.hid hpx
        clear hpx hpc hws ht1
        generalize (joinW p.ws).toArray = T1 at *
        generalize (if p.ws = [] then [p.mark] else []).toArray = T2 at *
        generalize hix : ixL (l.drop j) = IX at *
        have hx1 := ext_take (l.drop j)
        have hx2 := ext_drop (l.drop j)
        have hSz : (⟨(l.drop j).toArray⟩ : ByteArray).size = (l.drop j).length := by simp [ByteArray.size]
        generalize hSS : (⟨(l.drop j).toArray⟩ : ByteArray) = S at *
        rw [← hSz] at i1
        have hSl : S.size ≤ 1000000 := by rw [hSz]; exact hlj
        have HI := Lib.hid hixc; have HSS := Lib.hid hSS
        clear hixc hix hSS
        go_wp2_with fail
        refine HP.out.mono ?_
        rintro e W2 ⟨rfl, hb2⟩
        have hW := fun W hb => (H2.out.below hb2).below (w' := W) hb
        have HW := Lib.hid hW; have HX1 := Lib.hid hx1; have HX2a := Lib.hid hx2; have HRa := Lib.hid hrd; have HRC := Lib.hid hrdc; have HSz := Lib.hid hSz
        clear hW hb2 hx1 hx2 hrd hrdc hSz
        go_wp2_with fail
        have q0 : ∀ i, (W2.alloc (.cells #[.pointer (some ⟨n0 + 1, 1 + p.of, none⟩), .string ⟨T1⟩, .string ⟨T2⟩, .int .i64 p.times] 95)).cell? ⟨W2.heap.size, i, none⟩ = (#[.pointer (some ⟨n0 + 1, 1 + p.of, none⟩), .string ⟨T1⟩, .string ⟨T2⟩, .int .i64 p.times] : Array Value)[i]? := fun i => World.cell?_alloc_at _ _ _ _ rfl
        have hz5 : W2.heap.size < (W2.alloc (.cells #[.pointer (some ⟨n0 + 1, 1 + p.of, none⟩), .string ⟨T1⟩, .string ⟨T2⟩, .int .i64 p.times] 95)).heap.size := by simp
        have H5 := Lib.hid (HW.out (W2.alloc (.cells #[.pointer (some ⟨n0 + 1, 1 + p.of, none⟩), .string ⟨T1⟩, .string ⟨T2⟩, .int .i64 p.times] 95)) ((Below.refl _ _).alloc (Nat.le_refl _) _))
        generalize W2.alloc (.cells #[.pointer (some ⟨n0 + 1, 1 + p.of, none⟩), .string ⟨T1⟩, .string ⟨T2⟩, .int .i64 p.times] 95) = W5 at *
        generalize W2.heap.size = pb at *
        refine (HI.out W5).mono ?_
        rintro e W6 ⟨rfl, hb6⟩
        have z0 := (hb6.cell (p := ⟨pb, 0, none⟩) hz5).trans (q0 0)
        have z1 := (hb6.cell (p := ⟨pb, 1, none⟩) hz5).trans (q0 1)
        have z2 := (hb6.cell (p := ⟨pb, 2, none⟩) hz5).trans (q0 2)
        have z3 := (hb6.cell (p := ⟨pb, 3, none⟩) hz5).trans (q0 3)
        simp only [List.getElem?_toArray, List.getElem?_cons_zero, List.getElem?_cons_succ] at z0 z1 z2 z3
        have H6 := Lib.hid (H5.out.below hb6)
        clear q0 hz5 H5 hb6 HW H2
        have hx1 := HX1.out; have hx2 := HX2a.out; have hrd := HRa.out; have hrdc := HRC.out; have hSz := HSz.out
        clear HX1 HX2a HRa HRC HSz
        by_cases hneg : IX < 0
        · rw [if_pos hneg, ← hSz] at hrd
          clear hSz
          have hA : ∀ W, RdInv n0 op st ⟨sh.toArray⟩ (k + 1) w W → Calls Tryz.prog 53 #[.agg #[.pointer (some ⟨n0 + 1, 1 + p.of, none⟩), .string ⟨T1⟩, .string ⟨T2⟩, .int .i64 p.times], .string (S.extract 0 S.size)] W fun e w' => ∃ v, e = .returned (.bool (p.num ((l.drop j).take S.size)).isSome) ∧ (∀ y, p.num ((l.drop j).take S.size) = some y → v = y) ∧ RdInv n0 op (st.set p.of v) ⟨sh.toArray⟩ (k + 1) w w' := fun W hinv => by
            rw [hx1]
            refine (hrdc S.size W (fun W' hb => HLW.out W' (hinv.low.trans (hb.mono (by omega)))) hinv.ins).mono ?_
            rintro e w' ⟨v, he, hv, hi, hu⟩
            exact ⟨v, he, hv, hinv.upd hi hu⟩
          have hx2e := hx2 S.size
          rw [List.drop_drop] at hx2e
          rw [List.drop_drop] at hrd
          generalize p.num ((l.drop j).take S.size) = N at *
          have hs1 := slice_to S S.size (Nat.le_refl _)
          have hs2 := slice_from S S.size (Nat.le_refl _)
          have HA := Lib.hid hA; have HRD := Lib.hid hrd; have HX2 := Lib.hid hx2e
          clear hA hrd hx2e hx1 hx2 hrdc
          cases N with
          | none =>
            have hr2 : none = rd sh l Nm.nul := HRD.out
            have HR2 := Lib.hid hr2
            clear hr2 HRD
            go_wp2_with fail
            generalize hse : S.size = en at *
            have hen : en ≤ S.size := Nat.le_of_eq hse.symm
            have HSE := Lib.hid hse
            clear hse
            go_region_with
              ((go_at_call 53; refine (HA.out _ H6.out.drew).mono ?_; rintro e W7 ⟨v, rfl, hv, h7⟩; have H7 := Lib.hid h7; clear h7 hv))
            all_goals
              simp only [Option.isSome_none] at *
              have HE := Lib.hid (blk5 H7.out.res (.int .i64 0) (.int .i64 0) (.int .i64 0) (.int .i64 0) (.int .i64 0))
              have r0 := H7.out.res.cell 0; have r1 := H7.out.res.cell 1; have r2 := H7.out.res.cell 2; have r3 := H7.out.res.cell 3; have r4 := H7.out.res.cell 4
              have f0 := H7.out.res.frozen 0; have f1 := H7.out.res.frozen 1; have f2 := H7.out.res.frozen 2; have f3 := H7.out.res.frozen 3; have f4 := H7.out.res.frozen 4
              simp only [List.getElem?_toArray, List.getElem?_cons_zero, List.getElem?_cons_succ] at r0 r1 r2 r3 r4
              go_wp2_with fail
              have hlo : Below n0 w (((((W7.setCell ⟨n0, 0, none⟩ (.int .i64 0)).setCell ⟨n0, 1, none⟩ (.int .i64 0)).setCell ⟨n0, 2, none⟩ (.int .i64 0)).setCell ⟨n0, 3, none⟩ (.int .i64 0)).setCell ⟨n0, 4, none⟩ (.int .i64 0)) := (((((H7.out.low.setCell (p := ⟨n0, 0, none⟩) (Nat.le_refl _) _).setCell (p := ⟨n0, 1, none⟩) (Nat.le_refl _) _).setCell (p := ⟨n0, 2, none⟩) (Nat.le_refl _) _).setCell (p := ⟨n0, 3, none⟩) (Nat.le_refl _) _).setCell (p := ⟨n0, 4, none⟩) (Nat.le_refl _) _)
              have hE := HE.out
              clear r0 r1 r2 r3 r4 f0 f1 f2 f3 f4 HE
              generalize (((((W7.setCell ⟨n0, 0, none⟩ (.int .i64 0)).setCell ⟨n0, 1, none⟩ (.int .i64 0)).setCell ⟨n0, 2, none⟩ (.int .i64 0)).setCell ⟨n0, 3, none⟩ (.int .i64 0)).setCell ⟨n0, 4, none⟩ (.int .i64 0)) = W6 at *
              have s0 := hE.cell 0; have s1 := hE.cell 1; have s2 := hE.cell 2; have s3 := hE.cell 3; have s4 := hE.cell 4
              simp only [List.getElem?_toArray, List.getElem?_cons_zero, List.getElem?_cons_succ] at s0 s1 s2 s3 s4
              exact bodyPost_ret (v := .tuple #[.agg #[.int .i64 0, .int .i64 0, .int .i64 0, .int .i64 0, .int .i64 0], .bool false]) (by simp [results, Tryz.results30, go_sem, s0, s1, s2, s3, s4]) rfl (HF.out 0 Nm.nul false W6 (by rw [← HR2.out]; rfl) (fun y hy => by rw [← HR2.out] at hy; cases hy) hlo)
          | some v0 =>
            have hr2 : rd (sh.drop (k + 1)) (l.drop (j + S.size)) (st.set p.of v0) = rd sh l Nm.nul := HRD.out
            have HR2 := Lib.hid hr2
            clear hr2 HRD
            go_wp2_with fail
            generalize hse : S.size = en at *
            have hen : en ≤ S.size := Nat.le_of_eq hse.symm
            have HSE := Lib.hid hse
            clear hse
            go_region_with
              ((go_at_call 53; refine (HA.out _ H6.out.drew).mono ?_; rintro e W7 ⟨v, rfl, hv, h7⟩; obtain rfl := hv _ rfl; have H7 := Lib.hid h7; clear h7 hv))
            all_goals
              go_wp2_with fail
              go_roundg (sh.length - (k + 1))
              case measure => omega
              case rel => exact ⟨k + 1, j + en, st.set p.of v, rfl, by omega, by rw [← HX2.out, ext_self], Lib.hid ⟨HR2.out, H7.out⟩⟩
        · obtain ⟨en, rfl⟩ := Int.eq_ofNat_of_zero_le (by omega : 0 ≤ IX)
          rw [if_neg hneg, Int.toNat_natCast] at hrd
          have hen : en ≤ S.size := by omega
          clear hSz
          have hA : ∀ W, RdInv n0 op st ⟨sh.toArray⟩ (k + 1) w W → Calls Tryz.prog 53 #[.agg #[.pointer (some ⟨n0 + 1, 1 + p.of, none⟩), .string ⟨T1⟩, .string ⟨T2⟩, .int .i64 p.times], .string (S.extract 0 en)] W fun e w' => ∃ v, e = .returned (.bool (p.num ((l.drop j).take en)).isSome) ∧ (∀ y, p.num ((l.drop j).take en) = some y → v = y) ∧ RdInv n0 op (st.set p.of v) ⟨sh.toArray⟩ (k + 1) w w' := fun W hinv => by
            rw [hx1]
            refine (hrdc en W (fun W' hb => HLW.out W' (hinv.low.trans (hb.mono (by omega)))) hinv.ins).mono ?_
            rintro e w' ⟨v, he, hv, hi, hu⟩
            exact ⟨v, he, hv, hinv.upd hi hu⟩
          have hx2e := hx2 en
          rw [List.drop_drop] at hx2e
          rw [List.drop_drop] at hrd
          generalize p.num ((l.drop j).take en) = N at *
          have hs1 := slice_to S en hen
          have hs2 := slice_from S en hen
          have HA := Lib.hid hA; have HRD := Lib.hid hrd; have HX2 := Lib.hid hx2e
          clear hA hrd hx2e hx1 hx2 hrdc
          cases N with
          | none =>
            have hr2 : none = rd sh l Nm.nul := HRD.out
            have HR2 := Lib.hid hr2
            clear hr2 HRD
            go_wp2_with fail
            go_region_with
              ((go_at_call 53; refine (HA.out _ H6.out.drew).mono ?_; rintro e W7 ⟨v, rfl, hv, h7⟩; have H7 := Lib.hid h7; clear h7 hv))
            all_goals
              simp only [Option.isSome_none] at *
              have HE := Lib.hid (blk5 H7.out.res (.int .i64 0) (.int .i64 0) (.int .i64 0) (.int .i64 0) (.int .i64 0))
              have r0 := H7.out.res.cell 0; have r1 := H7.out.res.cell 1; have r2 := H7.out.res.cell 2; have r3 := H7.out.res.cell 3; have r4 := H7.out.res.cell 4
              have f0 := H7.out.res.frozen 0; have f1 := H7.out.res.frozen 1; have f2 := H7.out.res.frozen 2; have f3 := H7.out.res.frozen 3; have f4 := H7.out.res.frozen 4
              simp only [List.getElem?_toArray, List.getElem?_cons_zero, List.getElem?_cons_succ] at r0 r1 r2 r3 r4
              go_wp2_with fail
              have hlo : Below n0 w (((((W7.setCell ⟨n0, 0, none⟩ (.int .i64 0)).setCell ⟨n0, 1, none⟩ (.int .i64 0)).setCell ⟨n0, 2, none⟩ (.int .i64 0)).setCell ⟨n0, 3, none⟩ (.int .i64 0)).setCell ⟨n0, 4, none⟩ (.int .i64 0)) := (((((H7.out.low.setCell (p := ⟨n0, 0, none⟩) (Nat.le_refl _) _).setCell (p := ⟨n0, 1, none⟩) (Nat.le_refl _) _).setCell (p := ⟨n0, 2, none⟩) (Nat.le_refl _) _).setCell (p := ⟨n0, 3, none⟩) (Nat.le_refl _) _).setCell (p := ⟨n0, 4, none⟩) (Nat.le_refl _) _)
              have hE := HE.out
              clear r0 r1 r2 r3 r4 f0 f1 f2 f3 f4 HE
              generalize (((((W7.setCell ⟨n0, 0, none⟩ (.int .i64 0)).setCell ⟨n0, 1, none⟩ (.int .i64 0)).setCell ⟨n0, 2, none⟩ (.int .i64 0)).setCell ⟨n0, 3, none⟩ (.int .i64 0)).setCell ⟨n0, 4, none⟩ (.int .i64 0)) = W6 at *
              have s0 := hE.cell 0; have s1 := hE.cell 1; have s2 := hE.cell 2; have s3 := hE.cell 3; have s4 := hE.cell 4
              simp only [List.getElem?_toArray, List.getElem?_cons_zero, List.getElem?_cons_succ] at s0 s1 s2 s3 s4
              exact bodyPost_ret (v := .tuple #[.agg #[.int .i64 0, .int .i64 0, .int .i64 0, .int .i64 0, .int .i64 0], .bool false]) (by simp [results, Tryz.results30, go_sem, s0, s1, s2, s3, s4]) rfl (HF.out 0 Nm.nul false W6 (by rw [← HR2.out]; rfl) (fun y hy => by rw [← HR2.out] at hy; cases hy) hlo)
          | some v0 =>
            have hr2 : rd (sh.drop (k + 1)) (l.drop (j + en)) (st.set p.of v0) = rd sh l Nm.nul := HRD.out
            have HR2 := Lib.hid hr2
            clear hr2 HRD
            go_wp2_with fail
            go_region_with
              ((go_at_call 53; refine (HA.out _ H6.out.drew).mono ?_; rintro e W7 ⟨v, rfl, hv, h7⟩; obtain rfl := hv _ rfl; have H7 := Lib.hid h7; clear h7 hv))
            all_goals
              go_wp2_with fail
              go_roundg (sh.length - (k + 1))
              case measure => omega
              case rel => exact ⟨k + 1, j + en, st.set p.of v, rfl, by omega, by rw [← HX2.out], Lib.hid ⟨HR2.out, H7.out⟩⟩
    · obtain rfl : k = sh.length := by omega
      have hnx : ∀ ty, (Instr.next (.pointer (some ⟨n0 + 1 + 1, 0, none⟩)) true ty).run Tryz.prog wr = .ok (.tuple #[.bool false]) wr := fun ty =>
        run_next_end_at (P := Tryz.prog) wr (n0 + 1 + 1) ⟨sh.toArray⟩ sh.length ty HH.out.2.it (by simp [ByteArray.size])
      have hrd0 : rd [] (l.drop j) st = rd sh l Nm.nul := by
        have h := HH.out.1
        rw [List.drop_eq_nil_of_le (Nat.le_refl _)] at h
        exact h
      have c0 := HH.out.2.ins.cell 0; have c1 := HH.out.2.ins.cell 1; have c2 := HH.out.2.ins.cell 2; have c3 := HH.out.2.ins.cell 3; have c4 := HH.out.2.ins.cell 4
      have HE := Lib.hid (blk5 HH.out.2.res (.int .i64 op) (.int .i64 st.d) (.int .i64 st.n) (.int .i64 st.m) (.int .i64 st.i))
      have r0 := HH.out.2.res.cell 0; have r1 := HH.out.2.res.cell 1; have r2 := HH.out.2.res.cell 2; have r3 := HH.out.2.res.cell 3; have r4 := HH.out.2.res.cell 4
      have f0 := HH.out.2.res.frozen 0; have f1 := HH.out.2.res.frozen 1; have f2 := HH.out.2.res.frozen 2; have f3 := HH.out.2.res.frozen 3; have f4 := HH.out.2.res.frozen 4
      simp only [List.getElem?_toArray, List.getElem?_cons_zero, List.getElem?_cons_succ] at c0 c1 c2 c3 c4 r0 r1 r2 r3 r4
      have HRD := Lib.hid hrd0
      clear hrd0
      go_wp2_with fail
      have hlo : Below n0 w (((((wr.setCell ⟨n0, 0, none⟩ (.int .i64 op)).setCell ⟨n0, 1, none⟩ (.int .i64 st.d)).setCell ⟨n0, 2, none⟩ (.int .i64 st.n)).setCell ⟨n0, 3, none⟩ (.int .i64 st.m)).setCell ⟨n0, 4, none⟩ (.int .i64 st.i)) := (((((HH.out.2.low.setCell (p := ⟨n0, 0, none⟩) (Nat.le_refl _) _).setCell (p := ⟨n0, 1, none⟩) (Nat.le_refl _) _).setCell (p := ⟨n0, 2, none⟩) (Nat.le_refl _) _).setCell (p := ⟨n0, 3, none⟩) (Nat.le_refl _) _).setCell (p := ⟨n0, 4, none⟩) (Nat.le_refl _) _)
      have hE := HE.out
      clear r0 r1 r2 r3 r4 f0 f1 f2 f3 f4 c0 c1 c2 c3 c4 HE
      generalize (((((wr.setCell ⟨n0, 0, none⟩ (.int .i64 op)).setCell ⟨n0, 1, none⟩ (.int .i64 st.d)).setCell ⟨n0, 2, none⟩ (.int .i64 st.n)).setCell ⟨n0, 3, none⟩ (.int .i64 st.m)).setCell ⟨n0, 4, none⟩ (.int .i64 st.i)) = W6 at *
      have s0 := hE.cell 0; have s1 := hE.cell 1; have s2 := hE.cell 2; have s3 := hE.cell 3; have s4 := hE.cell 4
      simp only [List.getElem?_toArray, List.getElem?_cons_zero, List.getElem?_cons_succ] at s0 s1 s2 s3 s4
      refine bodyPost_ret (v := .tuple #[.agg #[.int .i64 op, .int .i64 st.d, .int .i64 st.n, .int .i64 st.m, .int .i64 st.i], .bool (l.drop j).isEmpty]) (by simp [results, Tryz.results30, go_sem, s0, s1, s2, s3, s4]) rfl (HF.out op st (l.drop j).isEmpty W6 ?_ ?_ hlo)
      · rw [← HRD.out]
        cases l.drop j <;> rfl
      · intro y hy
        rw [← HRD.out] at hy
        cases hq : l.drop j with
        | nil => rw [hq] at hy; exact ⟨rfl, Option.some.inj hy⟩
        | cons a r => rw [hq] at hy; cases hy
end Go.Proofs.YtnngnfajmncjpaaGreatDoor.Tx
