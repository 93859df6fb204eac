/- DERIVED. Spl in one text. By an AI agent. -/
import Derived.RangeFuncNested
import Derived.RangeFuncBound
import Derived.RangeFuncCalls
import Derived.RangeFuncLeaves
import Derived.RangeFuncBox
import Derived.Shelf.Abstract
import Derived.Shelf.RegionOpen
import Derived.OwnWalkIn
import Derived.TacticsInMore
import Derived.LoopNIn
import Derived.LoopIn
import Derived.WalkKit
import Derived.Lib.Hide
import Derived.Lib.IndexMore
import Derived.Test.YtnngnfajmncjpaaGreatDoorZ28
import Derived.Test.YtnngnfajmncjpaaGreatDoorZ12
import Derived.Test.YtnngnfajmncjpaaGreatDoorZ06
/- DERIVED. strings.SplitSeq at one byte: the closure that it returns, as an iterator. By an AI agent. -/
namespace Go.Proofs.YtnngnfajmncjpaaGreatDoor.Spl
open Go Go.ChangeShapes Go.WideShapes Go.ChangeAt Go.RowKit Go.Shelf Args
set_option linter.unusedVariables false
set_option linter.unusedSimpArgs false
attribute [local go_sem] Oper.semAt_some
abbrev Bs := List UInt8
def szOf : Value → Nat
  | .string t => t.size
  | _ => 0
theorem bs_size (l : Bs) : (⟨l.toArray⟩ : ByteArray).size = l.length := by show l.toArray.size = _; simp
/-- A text's pieces between the bytes c. -/
def splitB (c : UInt8) : Bs → List Bs
  | [] => [[]]
  | d :: r => if d == c then [] :: splitB c r else match splitB c r with | [] => [[d]] | x :: l => (d :: x) :: l
theorem split_ne (c : UInt8) (r : Bs) : splitB c r ≠ [] := by
  cases r with
  | nil => exact List.cons_ne_nil _ _
  | cons d r =>
    unfold splitB
    split
    · exact List.cons_ne_nil _ _
    · split <;> exact List.cons_ne_nil _ _
theorem split_at (c : UInt8) : ∀ (r : Bs), (Lib.indexByte r c = -1 ∧ splitB c r = [r]) ∨ ∃ i : Nat, Lib.indexByte r c = i ∧ i < r.length ∧ splitB c r = r.take i :: splitB c (r.drop (i + 1))
  | [] => .inl ⟨rfl, rfl⟩
  | d :: r => by
    have e : Lib.indexByte (d :: r) c = if d == c then 0 else if Lib.indexByte r c == -1 then -1 else Lib.indexByte r c + 1 := rfl
    by_cases hd : (d == c) = true
    · refine .inr ⟨0, by rw [e, if_pos hd]; rfl, by simp, ?_⟩
      conv => lhs; unfold splitB
      rw [if_pos hd]; rfl
    · rcases split_at c r with ⟨h1, h2⟩ | ⟨i, h1, h2, h3⟩
      · refine .inl ⟨by rw [e, if_neg hd, h1]; rfl, ?_⟩
        unfold splitB
        rw [if_neg hd, h2]
      · refine .inr ⟨i + 1, ?_, by simp; omega, ?_⟩
        · rw [e, if_neg hd, h1, if_neg (by rw [beq_iff_eq]; omega)]; push_cast; rfl
        · conv => lhs; unfold splitB
          rw [if_neg hd, h3]
          rfl
theorem ext_to (R : Bs) (i : Nat) : (⟨R.toArray⟩ : ByteArray).extract 0 i = ⟨(R.take i).toArray⟩ := by
  apply ByteArray.ext
  apply Array.toList_inj.1
  rw [ByteArray.data_extract]
  simp
theorem ext_from (R : Bs) (i : Nat) : (⟨R.toArray⟩ : ByteArray).extract i R.length = ⟨(R.drop i).toArray⟩ := by
  apply ByteArray.ext
  apply Array.toList_inj.1
  rw [ByteArray.data_extract]
  simp
  exact List.take_of_length_le (by rw [List.length_drop]; exact Nat.le_refl _)
theorem slice_to (R : Bs) (i : Nat) (h : i ≤ R.length) (W : World) : (Instr.slice 9 (.string ⟨R.toArray⟩) none (some (.int .i64 (i : Int))) none).run Tryz.prog W = .ok (.string ⟨(R.take i).toArray⟩) W := by
  have hs := bs_size R
  rw [run_slice_string_to_if W 9 ⟨R.toArray⟩ .i64 i Tryz.underlying9, if_pos ⟨by omega, by omega⟩, Int.toNat_natCast, ext_to]
theorem slice_from (R : Bs) (i : Nat) (h : i ≤ R.length) (W : World) : (Instr.slice 9 (.string ⟨R.toArray⟩) (some (.int .i64 (i : Int))) none none).run Tryz.prog W = .ok (.string ⟨(R.drop i).toArray⟩) W := by
  have hs := bs_size R
  rw [run_slice_string_from_if W 9 ⟨R.toArray⟩ .i64 i Tryz.underlying9, if_pos ⟨by omega, by omega⟩, Int.toNat_natCast, hs, ext_from]
/-- What a round keeps: the iterator's three boxes. -/
def KB (B : Nat) (W W' : World) : Prop := ∀ k, B ≤ k → k ≤ B + 2 → W'.heap[k]? = W.heap[k]?
theorem kb_t {B : Nat} {X Y Z : World} (h : KB B X Y) (k : KB B Y Z) : KB B X Z := fun i h1 h2 => (k i h1 h2).trans (h i h1 h2)
theorem kb_b {B : Nat} {w : World} (hn : B + 2 < w.heap.size) (W : World) (l : Nat) (o o' : Obj) (hl : w.heap.size ≤ l) (h : W.heap[l]? = some o) (_ : o.isCells = false) : KB B W (W.putObj l o') :=
  fun k _ h2 => (grownBy_putObj' W l o').block k (by have := (Array.getElem?_eq_some_iff.1 h).1; omega) (fun e => by cases e; omega)
def strAt (w : World) (B : Nat) : Nat := match w.cell? ⟨B, 0, none⟩ with | some v => szOf v | none => 0
theorem strAt_of {w : World} {B : Nat} {R : Bs} (h : w.cell? ⟨B, 0, none⟩ = some (.string ⟨R.toArray⟩)) : strAt w B = R.length := by unfold strAt; rw [h]; exact bs_size R
set_option maxRecDepth 100000 in
set_option maxHeartbeats 2000000 in
theorem split1 (n : Nat) (hn : 1 ≤ n) (l B : Nat) (c : UInt8) (L : Bs) (J Jx : List Bs → World → Prop) (hJ : Rg.Ab B J)
    (hY : ∀ pre x W, J pre W → pre ++ [x] <+: splitB c L → YieldAt Fence.wide (n - 1) Tryz.prog l #[.string ⟨x.toArray⟩] W fun e W' =>
      (e = .returned (.bool true) ∧ J (pre ++ [x]) W' ∧ KB B W W') ∨ (e = .returned (.bool false) ∧ Jx (pre ++ [x]) W'))
    (W : World) (hL : L.length ≤ 1000000) (hS : Blk W B 9 #[.string ⟨L.toArray⟩]) (hE : W.cell? ⟨B + 1, 0, none⟩ = some (.string ⟨#[c]⟩)) (hZ : W.cell? ⟨B + 2, 0, none⟩ = some (.int .i64 0)) (h0 : J [] W) :
    CallsIn Fence.wide n Tryz.prog 36 #[.func (.yield l) #[] #[], .pointer (some ⟨B + 1, 0, none⟩), .pointer (some ⟨B, 0, none⟩), .pointer (some ⟨B + 2, 0, none⟩)] W fun e W' => (∃ v, e = .returned v) ∧
      ((∃ ys, ys = splitB c L ∧ J ys W') ∨ (∃ pre, pre <+: splitB c L ∧ Jx pre W')) := by
  refine callsIn_of_wp Tryz.func36 rfl trivial ?_ rfl
  simp only [Tryz.ntmps36, List.size_toArray, List.length_cons, List.length_nil, Nat.reduceAdd, Nat.reduceSub, Array.replicate_succ, Array.replicate_zero, List.push_toArray, List.append_toArray, List.nil_append, List.cons_append]
  have HJ := Lib.hid hJ; have HY := Lib.hid hY
  have HS := Lib.hid hS; have HE := Lib.hid hE; have HZ := Lib.hid hZ
  have hIX := Lib.hid (fun R : Bs => Tryz.strings_Index_one ⟨R.toArray⟩ c)
  clear hJ hY hS
  gi_wp2
  gi_loopw [7] (fun vr wr => ∃ (pre : List Bs) (R : Bs), vr = vr ∧ R.length ≤ 1000000 ∧ Hid (pre ++ splitB c R = splitB c L ∧ J pre wr ∧ Blk wr B 9 #[.string ⟨R.toArray⟩] ∧ wr.cell? ⟨B + 1, 0, none⟩ = some (.string ⟨#[c]⟩) ∧ wr.cell? ⟨B + 2, 0, none⟩ = some (.int .i64 0)))
    (fun _ wr => strAt wr B)
  case atStart => exact ⟨[], L, rfl, hL, Lib.hid ⟨rfl, h0, HS.out, HE.out, HZ.out⟩⟩
  case round =>
    obtain ⟨pre, R, _, hR, HH⟩ := hrel
    have c0 : wr.cell? ⟨B, 0, none⟩ = some (.string ⟨R.toArray⟩) := HH.out.2.2.1.cell 0
    have c1 := HH.out.2.2.2.1
    have c2 := HH.out.2.2.2.2
    have f0 := HH.out.2.2.1.frozen 0
    rcases split_at c R with ⟨h1, h2⟩ | ⟨i, h1, h2, h3⟩
    · have hx := hIX.out R wr
      rw [h1] at hx
      have HX := Lib.hid hx
      have hpre := HH.out.1
      rw [h2] at hpre
      have HP := Lib.hid hpre
      obtain ⟨fn, tmps, assign, body, hy, hRn⟩ := HY.out pre R wr HH.out.2.1 (by rw [← hpre]; exact List.prefix_refl _)
      clear hx h1 h2 hpre
      gi_wp2_with (refine ⟨trivial, ?_⟩; gi_at_call 38; refine (callsIn_wide.2 HX.out).mono ?_; rintro e w' ⟨rfl, rfl⟩)
      refine hRn.mono ?_
      rintro e W3 (⟨rfl, hJ3, hk3⟩ | ⟨rfl, hJx3⟩)
      · gi_wp2
        go_end0
        exact ⟨⟨_, rfl⟩, .inl ⟨_, HP.out, hJ3⟩⟩
      · gi_wp2
        go_end0
        exact ⟨⟨_, rfl⟩, .inr ⟨_, ⟨[], by rw [List.append_nil]; exact HP.out⟩, hJx3⟩⟩
    · have hx := hIX.out R wr
      rw [h1] at hx
      have HX := Lib.hid hx
      have hpre := HH.out.1
      rw [h3] at hpre
      have HP := Lib.hid hpre
      obtain ⟨fn, tmps, assign, body, hy, hRn⟩ := HY.out pre (R.take i) wr HH.out.2.1 ⟨splitB c (R.drop (i + 1)), by rw [← hpre]; simp⟩
      have hsl := slice_to R i (by omega) wr
      have hsf : ∀ W, (Instr.slice 9 (.string ⟨R.toArray⟩) (some (.int .i64 ((i : Int) + 1))) none none).run Tryz.prog W = .ok (.string ⟨(R.drop (i + 1)).toArray⟩) W := fun W => by
        have := slice_from R (i + 1) (by omega) W
        push_cast at this
        exact this
      have HSF := Lib.hid hsf
      have hdl : (R.drop (i + 1)).length < R.length := by rw [List.length_drop]; omega
      have i1 : decide ((i : Int) < 0) = false := by simp
      clear hx h1 hpre h3 hsf
      gi_wp2_with (refine ⟨trivial, ?_⟩; gi_at_call 38; refine (callsIn_wide.2 HX.out).mono ?_; rintro e w' ⟨rfl, rfl⟩)
      refine hRn.mono ?_
      rintro e W3 (⟨rfl, hJ3, hk3⟩ | ⟨rfl, hJx3⟩)
      · have b3 : Blk W3 B 9 #[.string ⟨R.toArray⟩] := (hk3 B (Nat.le_refl _) (by omega)).trans HH.out.2.2.1
        have d0 : W3.cell? ⟨B, 0, none⟩ = some (.string ⟨R.toArray⟩) := b3.cell 0
        have d1 : W3.cell? ⟨B + 1, 0, none⟩ = some (.string ⟨#[c]⟩) := (World.cell?_of_block (a := ⟨B + 1, 0, none⟩) (hk3 (B + 1) (by omega) (by omega))).trans c1
        have d2 : W3.cell? ⟨B + 2, 0, none⟩ = some (.int .i64 0) := (World.cell?_of_block (a := ⟨B + 2, 0, none⟩) (hk3 (B + 2) (by omega) (by omega))).trans c2
        have g0 := b3.frozen 0
        have hs3 := HSF.out W3
        have HB3 := Lib.hid b3
        have hJ4 := HJ.out _ W3 _ (some B) hJ3 (grownBy_setCell' W3 B (.string ⟨(R.drop (i + 1)).toArray⟩)) (fun r e => by cases e; rfl)
        have HJ4 := Lib.hid hJ4
        clear hJ3 hk3 b3 hJ4
        gi_wp2
        go_roundw
        case rel =>
          refine ⟨pre ++ [R.take i], R.drop (i + 1), trivial, by omega, Lib.hid ⟨?_, HJ4.out, HB3.out.set 0 _, ?_, ?_⟩⟩
          · rw [← HP.out]; simp
          · exact (World.cell?_setCell_other W3 ⟨B, 0, none⟩ ⟨B + 1, 0, none⟩ _ (by simp)).trans d1
          · exact (World.cell?_setCell_other W3 ⟨B, 0, none⟩ ⟨B + 2, 0, none⟩ _ (by simp)).trans d2
        case measure =>
          rw [strAt_of c0, strAt_of ((HB3.out.set 0 (.string ⟨(R.drop (i + 1)).toArray⟩)).cell 0)]
          exact hdl
      · gi_wp2
        refine bodyPost_ret (results_none rfl _ _ _) rfl ?_
        exact ⟨⟨_, rfl⟩, .inr ⟨_, ⟨splitB c (R.drop (i + 1)), by rw [← HP.out]; simp⟩, hJx3⟩⟩
/-- The boxes of the iterator, and itself. -/
def sqW (L : Bs) (c : UInt8) (w : World) : World := ((w.alloc (.cells #[.string ⟨L.toArray⟩] 9)).alloc (.cells #[.string ⟨#[c]⟩] 9)).alloc (.cells #[.int .i64 0] 3)
def sqC (B : Nat) : Array Value := #[.pointer (some ⟨B + 1, 0, none⟩), .pointer (some ⟨B, 0, none⟩), .pointer (some ⟨B + 2, 0, none⟩)]
theorem split_it (n : Nat) (hn : 1 ≤ n) (B : Nat) (c : UInt8) (L : Bs) (hL : L.length ≤ 1000000) (w : World) (hB : B + 2 < w.heap.size) (hS : Blk w B 9 #[.string ⟨L.toArray⟩]) (hE : w.cell? ⟨B + 1, 0, none⟩ = some (.string ⟨#[c]⟩)) (hZ : w.cell? ⟨B + 2, 0, none⟩ = some (.int .i64 0)) :
    Rg.It Fence.wide n Tryz.prog 36 (sqC B) (fun x : Bs => #[.string ⟨x.toArray⟩]) (KB B) B (fun ys => ys = splitB c L) (fun pre => pre <+: splitB c L) (fun pre x => pre ++ [x] <+: splitB c L) w := fun l J Jx W hW hJ _ hY h0 =>
  split1 n hn l B c L J Jx hJ hY W hL (hS.below hW (by omega)) ((hW.cell (p := ⟨B + 1, 0, none⟩) (by show B + 1 < _; omega)).trans hE) ((hW.cell (p := ⟨B + 2, 0, none⟩) hB).trans hZ) h0
theorem seqU (L : Bs) (c : UInt8) (w : World) :
    Calls Tryz.prog 21 #[.string ⟨L.toArray⟩, .string ⟨#[c]⟩, .int .i64 0] w fun e w' => e = .returned (.func (.func 36) #[] (sqC w.heap.size)) ∧ w' = sqW L c w := by
  go_enter Tryz.func21, Tryz.ntmps21
  go_wp2_with fail
  go_ret
  exact ⟨rfl, rfl⟩
theorem seqC (L : Bs) (c : UInt8) (w : World) :
    Calls Tryz.prog 13 #[.string ⟨L.toArray⟩, .string ⟨#[c]⟩] w fun e w' => e = .returned (.func (.func 36) #[] (sqC w.heap.size)) ∧ w' = sqW L c w := by
  have h := seqU L c w
  generalize sqW L c w = w1 at *
  generalize sqC w.heap.size = F at *
  go_enter Tryz.func13, Tryz.ntmps13
  go_wp2_with fail
  refine h.mono ?_
  rintro e w' ⟨rfl, rfl⟩
  go_wp2_with fail
  go_ret
  exact ⟨rfl, rfl⟩
theorem own_blk {T B g : Nat} {t : TypeId} {cs : Array Value} {A W : World} {row : Option Nat} (h : Blk A g t cs) (hg : A.grownBy W row) (hr : ∀ r, row = some r → r = T ∨ (B ≤ r ∧ ∃ o : Obj, A.heap[r]? = some o ∧ o.isCells = false)) (hne : g ≠ T) : Blk W g t cs :=
  (hg.block g h.lt (fun e => by
    rcases hr g e.symm with h' | ⟨_, o, ho, hc⟩
    · exact hne h'
    · rw [show A.heap[g]? = _ from h] at ho; cases ho; cases hc)).trans h
theorem own_below {T B n : Nat} {w A W : World} {row : Option Nat} (h : Below n w A) (hg : A.grownBy W row) (hr : ∀ r, row = some r → r = T ∨ (B ≤ r ∧ ∃ o : Obj, A.heap[r]? = some o ∧ o.isCells = false)) (hT : n ≤ T) (hB : n ≤ B) (hs : n ≤ A.heap.size) : Below n w W :=
  h.grown hg hs fun k hk => by rcases hr k hk with h' | ⟨h', _⟩ <;> omega
theorem sqW_facts (L : Bs) (c : UInt8) (w : World) : (sqW L c w).heap.size = w.heap.size + 3 ∧ Below w.heap.size w (sqW L c w) ∧ Blk (sqW L c w) w.heap.size 9 #[.string ⟨L.toArray⟩] ∧ (sqW L c w).cell? ⟨w.heap.size + 1, 0, none⟩ = some (.string ⟨#[c]⟩) ∧ (sqW L c w).cell? ⟨w.heap.size + 2, 0, none⟩ = some (.int .i64 0) := by
  refine ⟨by unfold sqW; simp, (((Below.refl _ w).alloc (Nat.le_refl _) _).alloc (by simp) _).alloc (by simp; omega) _, ((Blk.new w _ _).alloc _).alloc _, ?_, ?_⟩
  · have := ((Blk.new (w.alloc (.cells #[.string ⟨L.toArray⟩] 9)) 9 #[.string ⟨#[c]⟩]).alloc (.cells #[.int .i64 0] 3)).cell 0
    rw [World.size_alloc] at this; exact this
  · have := (Blk.new ((w.alloc (.cells #[.string ⟨L.toArray⟩] 9)).alloc (.cells #[.string ⟨#[c]⟩] 9)) 3 #[.int .i64 0]).cell 0
    rw [World.size_alloc, World.size_alloc] at this; exact this
theorem blk_putObj {W : World} {g : Nat} {t : TypeId} {cs : Array Value} (h : Blk W g t cs) {D : Nat} {o : Obj} (o' : Obj) (hl : W.heap[D]? = some o) (ho : o.isCells = false) : Blk (W.putObj D o') g t cs :=
  ((grownBy_putObj' W D o').block g h.lt (fun e => by
    cases e
    rw [show W.heap[g]? = _ from h] at hl; cases hl; cases ho)).trans h
theorem below_putObj {n : Nat} {w W : World} (h : Below n w W) {D : Nat} {o : Obj} (o' : Obj) (hD : n ≤ D) (hl : W.heap[D]? = some o) : Below n w (W.putObj D o') :=
  h.grown (grownBy_putObj' W D o') (by have := (Array.getElem?_eq_some_iff.1 hl).1; omega) fun k e => by cases e; exact hD
end Go.Proofs.YtnngnfajmncjpaaGreatDoor.Spl
