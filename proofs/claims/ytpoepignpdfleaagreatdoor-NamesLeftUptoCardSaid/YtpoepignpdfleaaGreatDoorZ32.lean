/- DERIVED. LxSq in one text. By an AI agent. -/
import Derived.RangeFuncNested
import Derived.RangeFuncBound
import Derived.RangeFuncCalls
import Derived.RangeFuncLeaves
import Derived.RangeFuncBox
import Derived.Shelf.Abstract
import Derived.Shelf.RegionOpen
import Derived.OwnWalkIn
import Derived.TacticsInMore
import Derived.LoopNIn
import Derived.LoopIn
import Derived.Test.YtpoepignpdfleaaGreatDoorZ16
import Derived.Test.YtpoepignpdfleaaGreatDoorZ18
/- DERIVED. strings.SplitSeq at one byte: the closure that it returns, as an iterator. By an AI agent. -/
namespace Go.Proofs.YtpoepignpdfleaaGreatDoor.Lx
open Go Go.ChangeShapes Go.WideShapes Go.ChangeAt Go.RowKit Go.Shelf Args
set_option linter.unusedVariables false
set_option linter.unusedSimpArgs false
attribute [local go_sem] Oper.semAt_some
theorem ext_to (R : Bs) (i : Nat) : (⟨R.toArray⟩ : ByteArray).extract 0 i = ⟨(R.take i).toArray⟩ := by
  apply ByteArray.ext
  apply Array.toList_inj.1
  rw [ByteArray.data_extract]
  simp
theorem ext_from (R : Bs) (i : Nat) : (⟨R.toArray⟩ : ByteArray).extract i R.length = ⟨(R.drop i).toArray⟩ := by
  apply ByteArray.ext
  apply Array.toList_inj.1
  rw [ByteArray.data_extract]
  simp
  exact List.take_of_length_le (by rw [List.length_drop]; exact Nat.le_refl _)
theorem slice_to (R : Bs) (i : Nat) (h : i ≤ R.length) (W : World) : (Instr.slice 9 (.string ⟨R.toArray⟩) none (some (.int .i64 (i : Int))) none).run Tryz.prog W = .ok (.string ⟨(R.take i).toArray⟩) W := by
  have hs := bs_size R
  rw [run_slice_string_to_if W 9 ⟨R.toArray⟩ .i64 i Tryz.underlying9, if_pos ⟨by omega, by omega⟩, Int.toNat_natCast, ext_to]
theorem slice_from (R : Bs) (i : Nat) (h : i ≤ R.length) (W : World) : (Instr.slice 9 (.string ⟨R.toArray⟩) (some (.int .i64 (i : Int))) none none).run Tryz.prog W = .ok (.string ⟨(R.drop i).toArray⟩) W := by
  have hs := bs_size R
  rw [run_slice_string_from_if W 9 ⟨R.toArray⟩ .i64 i Tryz.underlying9, if_pos ⟨by omega, by omega⟩, Int.toNat_natCast, hs, ext_from]
/-- What a round keeps: the iterator's three boxes. -/
def KB (B : Nat) (W W' : World) : Prop := ∀ k, B ≤ k → k ≤ B + 2 → W'.heap[k]? = W.heap[k]?
theorem kb_t {B : Nat} {X Y Z : World} (h : KB B X Y) (k : KB B Y Z) : KB B X Z := fun i h1 h2 => (k i h1 h2).trans (h i h1 h2)
theorem kb_b {B : Nat} {w : World} (hn : B + 2 < w.heap.size) (W : World) (l : Nat) (o o' : Obj) (hl : w.heap.size ≤ l) (h : W.heap[l]? = some o) (_ : o.isCells = false) : KB B W (W.putObj l o') :=
  fun k _ h2 => (grownBy_putObj' W l o').block k (by have := (Array.getElem?_eq_some_iff.1 h).1; omega) (fun e => by cases e; omega)
def strAt (w : World) (B : Nat) : Nat := match w.cell? ⟨B, 0, none⟩ with | some v => szOf v | none => 0
theorem strAt_of {w : World} {B : Nat} {R : Bs} (h : w.cell? ⟨B, 0, none⟩ = some (.string ⟨R.toArray⟩)) : strAt w B = R.length := by unfold strAt; rw [h]; exact bs_size R
set_option maxRecDepth 100000 in
set_option maxHeartbeats 2000000 in
theorem split1 (n : Nat) (hn : 1 ≤ n) (l B : Nat) (c : UInt8) (L : Bs) (J Jx : List Bs → World → Prop) (hJ : Rt.Ab B J)
    (hY : ∀ pre x W, J pre W → pre.length < (splitB c L).length → YieldAt Fence.wide (n - 1) Tryz.prog l #[.string ⟨x.toArray⟩] W fun e W' =>
      (e = .returned (.bool true) ∧ J (pre ++ [x]) W' ∧ KB B W W') ∨ (e = .returned (.bool false) ∧ Jx (pre ++ [x]) W'))
    (W : World) (hL : L.length ≤ 1000000) (hS : Blk W B 9 #[.string ⟨L.toArray⟩]) (hE : W.cell? ⟨B + 1, 0, none⟩ = some (.string ⟨#[c]⟩)) (hZ : W.cell? ⟨B + 2, 0, none⟩ = some (.int .i64 0)) (h0 : J [] W) :
    CallsIn Fence.wide n Tryz.prog 122 #[.func (.yield l) #[] #[], .pointer (some ⟨B + 1, 0, none⟩), .pointer (some ⟨B, 0, none⟩), .pointer (some ⟨B + 2, 0, none⟩)] W fun e W' => (∃ v, e = .returned v) ∧
      ((∃ ys, ys = splitB c L ∧ J ys W') ∨ (∃ pre, pre <+: splitB c L ∧ Jx pre W')) := by
  refine callsIn_of_wp Tryz.func122 rfl trivial ?_ rfl
  simp only [Tryz.ntmps122, List.size_toArray, List.length_cons, List.length_nil, Nat.reduceAdd, Nat.reduceSub, Array.replicate_succ, Array.replicate_zero, List.push_toArray, List.append_toArray, List.nil_append, List.cons_append]
  have HJ := Lib.hid hJ; have HY := Lib.hid hY
  have HS := Lib.hid hS; have HE := Lib.hid hE; have HZ := Lib.hid hZ
  have hIX := Lib.hid (fun R : Bs => Tryz.strings_Index_one ⟨R.toArray⟩ c)
  clear hJ hY hS
  gi_wp2
  gi_loopw [7] (fun vr wr => ∃ (pre : List Bs) (R : Bs), vr = vr ∧ R.length ≤ 1000000 ∧ Hid (pre ++ splitB c R = splitB c L ∧ J pre wr ∧ Blk wr B 9 #[.string ⟨R.toArray⟩] ∧ wr.cell? ⟨B + 1, 0, none⟩ = some (.string ⟨#[c]⟩) ∧ wr.cell? ⟨B + 2, 0, none⟩ = some (.int .i64 0)))
    (fun _ wr => strAt wr B)
  case atStart => exact ⟨[], L, rfl, hL, Lib.hid ⟨rfl, h0, HS.out, HE.out, HZ.out⟩⟩
  case round =>
    obtain ⟨pre, R, _, hR, HH⟩ := hrel
    have c0 : wr.cell? ⟨B, 0, none⟩ = some (.string ⟨R.toArray⟩) := HH.out.2.2.1.cell 0
    have c1 := HH.out.2.2.2.1
    have c2 := HH.out.2.2.2.2
    have f0 := HH.out.2.2.1.frozen 0
    rcases split_at c R with ⟨h1, h2⟩ | ⟨i, h1, h2, h3⟩
    · have hx := hIX.out R wr
      rw [h1] at hx
      have HX := Lib.hid hx
      have hpre := HH.out.1
      rw [h2] at hpre
      have HP := Lib.hid hpre
      obtain ⟨fn, tmps, assign, body, hy, hRn⟩ := HY.out pre R wr HH.out.2.1 (by rw [← hpre]; simp)
      clear hx h1 h2 hpre
      gi_wp2_with (refine ⟨trivial, ?_⟩; gi_at_call 123; refine (callsIn_wide.2 HX.out).mono ?_; rintro e w' ⟨rfl, rfl⟩)
      refine hRn.mono ?_
      rintro e W3 (⟨rfl, hJ3, hk3⟩ | ⟨rfl, hJx3⟩)
      · gi_wp2
        go_end0
        exact ⟨⟨_, rfl⟩, .inl ⟨_, HP.out, hJ3⟩⟩
      · gi_wp2
        go_end0
        exact ⟨⟨_, rfl⟩, .inr ⟨_, ⟨[], by rw [List.append_nil]; exact HP.out⟩, hJx3⟩⟩
    · have hx := hIX.out R wr
      rw [h1] at hx
      have HX := Lib.hid hx
      have hpre := HH.out.1
      rw [h3] at hpre
      have HP := Lib.hid hpre
      obtain ⟨fn, tmps, assign, body, hy, hRn⟩ := HY.out pre (R.take i) wr HH.out.2.1 (by rw [← hpre]; simp)
      have hsl := slice_to R i (by omega) wr
      have hsf : ∀ W, (Instr.slice 9 (.string ⟨R.toArray⟩) (some (.int .i64 ((i : Int) + 1))) none none).run Tryz.prog W = .ok (.string ⟨(R.drop (i + 1)).toArray⟩) W := fun W => by
        have := slice_from R (i + 1) (by omega) W
        push_cast at this
        exact this
      have HSF := Lib.hid hsf
      have hdl : (R.drop (i + 1)).length < R.length := by rw [List.length_drop]; omega
      have i1 : decide ((i : Int) < 0) = false := by simp
      clear hx h1 hpre h3 hsf
      gi_wp2_with (refine ⟨trivial, ?_⟩; gi_at_call 123; refine (callsIn_wide.2 HX.out).mono ?_; rintro e w' ⟨rfl, rfl⟩)
      refine hRn.mono ?_
      rintro e W3 (⟨rfl, hJ3, hk3⟩ | ⟨rfl, hJx3⟩)
      · have b3 : Blk W3 B 9 #[.string ⟨R.toArray⟩] := (hk3 B (Nat.le_refl _) (by omega)).trans HH.out.2.2.1
        have d0 : W3.cell? ⟨B, 0, none⟩ = some (.string ⟨R.toArray⟩) := b3.cell 0
        have d1 : W3.cell? ⟨B + 1, 0, none⟩ = some (.string ⟨#[c]⟩) := (World.cell?_of_block (a := ⟨B + 1, 0, none⟩) (hk3 (B + 1) (by omega) (by omega))).trans c1
        have d2 : W3.cell? ⟨B + 2, 0, none⟩ = some (.int .i64 0) := (World.cell?_of_block (a := ⟨B + 2, 0, none⟩) (hk3 (B + 2) (by omega) (by omega))).trans c2
        have g0 := b3.frozen 0
        have hs3 := HSF.out W3
        have HB3 := Lib.hid b3
        have hJ4 := HJ.out _ W3 _ (some B) hJ3 (grownBy_setCell' W3 B (.string ⟨(R.drop (i + 1)).toArray⟩)) (fun r e => by cases e; rfl)
        have HJ4 := Lib.hid hJ4
        clear hJ3 hk3 b3 hJ4
        gi_wp2
        go_roundw
        case rel =>
          refine ⟨pre ++ [R.take i], R.drop (i + 1), trivial, by omega, Lib.hid ⟨?_, HJ4.out, HB3.out.set 0 _, ?_, ?_⟩⟩
          · rw [← HP.out]; simp
          · exact (World.cell?_setCell_other W3 ⟨B, 0, none⟩ ⟨B + 1, 0, none⟩ _ (by simp)).trans d1
          · exact (World.cell?_setCell_other W3 ⟨B, 0, none⟩ ⟨B + 2, 0, none⟩ _ (by simp)).trans d2
        case measure =>
          rw [strAt_of c0, strAt_of ((HB3.out.set 0 (.string ⟨(R.drop (i + 1)).toArray⟩)).cell 0)]
          exact hdl
      · gi_wp2
        refine bodyPost_ret (results_none rfl _ _ _) rfl ?_
        exact ⟨⟨_, rfl⟩, .inr ⟨_, ⟨splitB c (R.drop (i + 1)), by rw [← HP.out]; simp⟩, hJx3⟩⟩
/-- The boxes of the iterator, and itself. -/
def sqW (L : Bs) (c : UInt8) (w : World) : World := ((w.alloc (.cells #[.string ⟨L.toArray⟩] 9)).alloc (.cells #[.string ⟨#[c]⟩] 9)).alloc (.cells #[.int .i64 0] 3)
def sqC (B : Nat) : Array Value := #[.pointer (some ⟨B + 1, 0, none⟩), .pointer (some ⟨B, 0, none⟩), .pointer (some ⟨B + 2, 0, none⟩)]
theorem split_it (n : Nat) (hn : 1 ≤ n) (B : Nat) (c : UInt8) (L : Bs) (hL : L.length ≤ 1000000) (w : World) (hB : B + 2 < w.heap.size) (hS : Blk w B 9 #[.string ⟨L.toArray⟩]) (hE : w.cell? ⟨B + 1, 0, none⟩ = some (.string ⟨#[c]⟩)) (hZ : w.cell? ⟨B + 2, 0, none⟩ = some (.int .i64 0)) :
    Rt.It Fence.wide n Tryz.prog 122 (sqC B) (fun x : Bs => #[.string ⟨x.toArray⟩]) (KB B) B (fun ys => ys = splitB c L) (fun pre => pre <+: splitB c L) (splitB c L).length w := fun l J Jx W hW hJ _ hY h0 =>
  split1 n hn l B c L J Jx hJ hY W hL (hS.below hW (by omega)) ((hW.cell (p := ⟨B + 1, 0, none⟩) (by show B + 1 < _; omega)).trans hE) ((hW.cell (p := ⟨B + 2, 0, none⟩) hB).trans hZ) h0
theorem seqU (L : Bs) (c : UInt8) (w : World) :
    Calls Tryz.prog 114 #[.string ⟨L.toArray⟩, .string ⟨#[c]⟩, .int .i64 0] w fun e w' => e = .returned (.func (.func 122) #[] (sqC w.heap.size)) ∧ w' = sqW L c w := by
  go_enter Tryz.func114, Tryz.ntmps114
  go_wp2_with fail
  go_ret
  exact ⟨rfl, rfl⟩
theorem seqC (L : Bs) (c : UInt8) (w : World) :
    Calls Tryz.prog 99 #[.string ⟨L.toArray⟩, .string ⟨#[c]⟩] w fun e w' => e = .returned (.func (.func 122) #[] (sqC w.heap.size)) ∧ w' = sqW L c w := by
  have h := seqU L c w
  generalize sqW L c w = w1 at *
  generalize sqC w.heap.size = F at *
  go_enter Tryz.func99, Tryz.ntmps99
  go_wp2_with fail
  refine h.mono ?_
  rintro e w' ⟨rfl, rfl⟩
  go_wp2_with fail
  go_ret
  exact ⟨rfl, rfl⟩
end Go.Proofs.YtpoepignpdfleaaGreatDoor.Lx
