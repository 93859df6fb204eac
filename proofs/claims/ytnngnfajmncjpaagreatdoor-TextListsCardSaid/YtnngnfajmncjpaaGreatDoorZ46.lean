/- DERIVED. TxRLn in one text. By an AI agent. -/
import Derived.Test.YtnngnfajmncjpaaGreatDoorZ43
import Derived.Test.YtnngnfajmncjpaaGreatDoorZ45
import Derived.Test.YtnngnfajmncjpaaGreatDoorZ27
/- DERIVED. The reference's Line and List. By an AI agent. -/
namespace Go.Proofs.YtnngnfajmncjpaaGreatDoor.Tx
open Go.ChangeShapes Go.WideShapes Go.ChangeAt Go.RowKit Go.Lib Go.Sort Args
set_option linter.unusedVariables false
theorem hexT_ex (r : Nat) (hr : r < 16) : (⟨#[48, 49, 50, 51, 52, 53, 54, 55, 56, 57, 97, 98, 99, 100, 101, 102]⟩ : ByteArray).extract r (r + 1) = ⟨#[Lives.hexd r]⟩ := by
  have H : ∀ i : Fin 16, (⟨#[48, 49, 50, 51, 52, 53, 54, 55, 56, 57, 97, 98, 99, 100, 101, 102]⟩ : ByteArray).extract i.val (i.val + 1) = ⟨#[Lives.hexd i.val]⟩ := by decide +kernel
  exact H ⟨r, hr⟩
theorem cons_text (a : UInt8) (D : Txt) : (⟨#[a]⟩ : ByteArray) ++ ⟨D.toArray⟩ = ⟨(a :: D).toArray⟩ := by
  apply ByteArray.ext
  simp
def NatOf : Value → Nat
  | .int _ z => z.toNat
  | _ => 0
set_option maxHeartbeats 4000000 in
set_option maxRecDepth 100000 in
theorem rline (h : Nat) (hh : h < 65536) (w : World) : Calls Tryz.prog 15 #[.int .u16 h] w fun e w' => e = .returned (.string ⟨(lineL h).toArray⟩) ∧ Below w.heap.size w w' := by
  have htk := fun W => Tp.takeR h hh W
  rcases take_cases h hh with ⟨k, s, hok, ht, hp, hl⟩ | ⟨k, e, s, ht, he, hl⟩
  · rw [hl]
    have htk2 : ∀ W, Calls Tryz.prog 25 #[.int .u16 h] W fun e w' => e = .returned (.tuple #[.agg #[.int .i64 k, .int .i64 s.d, .int .i64 s.n, .int .i64 s.m, .int .i64 s.i], .int .i64 0]) ∧ Below W.heap.size W w' := fun W => by
      have := htk W
      rw [ht] at this
      exact this
    have hsh := fun W => TxR.showR k s.d s.n s.m s.i W
    have hv : shwV k s.d s.n s.m s.i = .tuple #[.string ⟨(showL k (nm s)).toArray⟩, .bool true] := by unfold shwV; rw [if_pos ((okk_of k hok.hk _ _ _ _).2 hok)]; rfl
    rw [hv] at hsh
    have HTK := Lib.hid htk2; have HSH := Lib.hid hsh
    clear htk htk2 hsh hv hok ht hp hl
    generalize showL k (nm s) = OUT at *
    go_enter Tryz.func15, Tryz.ntmps15
    go_wp2_with fail
    refine (HTK.out _).mono ?_
    rintro e w1 ⟨rfl, hb1⟩
    have HB := Lib.hid (hb1.alloc hb1.size (.cells #[.int .i64 k, .int .i64 s.d, .int .i64 s.n, .int .i64 s.m, .int .i64 s.i] 50))
    clear hb1
    go_wp2_with fail
    refine (HSH.out _).mono ?_
    rintro e w2 ⟨rfl, hb2⟩
    have HB2 := Lib.hid (HB.out.trans (hb2.mono HB.out.size))
    clear hb2
    go_wp2_with fail
    go_ret
    exact ⟨rfl, HB2.out⟩
  · rw [hl]
    have htk2 : ∀ W, Calls Tryz.prog 25 #[.int .u16 h] W fun z w' => z = .returned (.tuple #[.agg #[.int .i64 k, .int .i64 s.d, .int .i64 s.n, .int .i64 s.m, .int .i64 s.i], .int .i64 e]) ∧ Below W.heap.size W w' := fun W => by
      have := htk W
      rw [ht] at this
      exact this
    have hne : ((e : Int) == 0) = false := by simp; omega
    have HTK := Lib.hid htk2
    clear htk htk2 ht hl he
    go_enter Tryz.func15, Tryz.ntmps15
    go_wp2_with fail
    refine (HTK.out _).mono ?_
    rintro e w1 ⟨rfl, hb1⟩
    have HB := Lib.hid (hb1.alloc hb1.size (.cells #[.int .i64 k, .int .i64 s.d, .int .i64 s.n, .int .i64 s.m, .int .i64 s.i] 50))
    clear hb1
    go_wp2_with fail
    generalize w1.alloc (.cells #[.int .i64 k, .int .i64 s.d, .int .i64 s.n, .int .i64 s.m, .int .i64 s.i] 50) = w2 at *
    go_loopw [0, 7, 8] (fun vh vs vk wr => ∃ (i x : Nat) (D : Txt), i ≤ 4 ∧ x < 65536 ∧ D.length = i ∧ vh = .int .u16 x ∧ vs = .string ⟨D.toArray⟩ ∧ vk = .int .i64 i ∧ wr = w2 ∧ Lives.fixD h 4 = Lives.fixD x (4 - i) ++ D) (fun _ _ vk _ => 4 - NatOf vk)
    case atStart => exact ⟨0, h, [], by omega, hh, rfl, rfl, rfl, rfl, rfl, by simp⟩
    case round =>
      obtain ⟨i, x, D, hi, hx, hDl, rfl, rfl, rfl, rfl, hD⟩ := hrel
      have HD := Lib.hid hD
      clear hD
      by_cases hlt : i < 4
      · have hii : (i : Int) < 4 := by omega
        go_wp2_with fail
        go_roundw
        case rel =>
          refine ⟨i + 1, x / 16, Lives.hexd (x % 16) :: D, by omega, by omega, by rw [List.length_cons, hDl], ?_, ?_, ?_, trivial, ?_⟩
          · go_num
          · rw [hexT_ex _ (Nat.mod_lt _ (by decide)), cons_text]
          · go_num
          · rw [HD.out, show 4 - i = (4 - (i + 1)) + 1 by omega, Lives.fixD_last, List.append_assoc]; rfl
        case measure => simp only [NatOf]; omega
      · obtain rfl : i = 4 := by omega
        go_wp2_with fail
        go_ret
        refine ⟨?_, HB.out⟩
        rw [HD.out, cons_text]
        rfl
set_option maxHeartbeats 4000000 in
set_option maxRecDepth 100000 in
theorem rlist (A : Option Addr) (cap : Nat) (zs : List Nat) (hzs : ∀ z ∈ zs, z < 65536) (hlen : zs.length ≤ 1000) (w : World) (hC : Lies w A (zs.map fun z : Nat => Value.int .u16 (z : Int))) :
    Calls Tryz.prog 6 #[.slice A zs.length cap] w fun e w' => e = .returned (.string ⟨(listL zs).toArray⟩) ∧ Below w.heap.size w w' := by
  have HC := Lib.hid hC; have HZ := Lib.hid hzs
  clear hC hzs
  go_enter Tryz.func6, Tryz.ntmps6
  go_wp2_with fail
  go_loopw [3, 4] (fun vs vi wr => ∃ i : Nat, i ≤ zs.length ∧ vs = .string ⟨(listL (zs.take i)).toArray⟩ ∧ vi = .int .i64 i ∧ Hid (Below w.heap.size w wr)) (fun _ vi _ => zs.length - NatOf vi)
  case atStart => exact ⟨0, by omega, rfl, rfl, Lib.hid (Below.refl _ _)⟩
  case round =>
    obtain ⟨i, hi, rfl, rfl, HH⟩ := hrel
    by_cases hlt : i < zs.length
    · have hii : (i : Int) < (zs.length : Nat) := by omega
      have f1 : (zs.map fun z : Nat => Value.int .u16 (z : Int))[i]? = some (.int .u16 ((zs[i]'hlt : Nat) : Int)) := by simp [List.getElem?_eq_getElem hlt]
      obtain ⟨b, o, rfl, _, hc⟩ := (HC.out.below HH.out).at_ f1
      have e1 := hc _ _ f1
      have hS := listL_len (zs.take i) fun z hz => HZ.out z (List.mem_of_mem_take hz)
      have hS2 : (listL (zs.take i)).length ≤ 801000 := by rw [List.length_take] at hS; omega
      have hO := lineL_len (zs[i]'hlt) (HZ.out _ (List.getElem_mem hlt))
      have hln := fun W => rline (zs[i]'hlt) (HZ.out _ (List.getElem_mem hlt)) W
      have hnx : listL (zs.take (i + 1)) = listL (zs.take i) ++ lineL (zs[i]'hlt) ++ [10] := by
        rw [List.take_succ_eq_append_getElem hlt, listL_app]
        simp [listL]
      have HLN := Lib.hid hln; have HNX := Lib.hid hnx
      clear hln hnx hc f1 hS
      generalize zs[i]'hlt = z at *
      generalize lineL z = OUT at *
      generalize listL (zs.take i) = S at *
      go_wp2_with fail
      refine (HLN.out _).mono ?_
      rintro e w2 ⟨rfl, hb2⟩
      have HB2 := Lib.hid (HH.out.trans (hb2.mono HH.out.size))
      clear hb2
      go_wp2_with fail
      go_roundw
      case rel =>
        refine ⟨i + 1, by omega, ?_, by go_num, HB2⟩
        rw [HNX.out]
        congr 1
      case measure => simp only [NatOf]; omega
    · obtain rfl : i = zs.length := by omega
      rw [List.take_length]
      go_wp2_with fail
      go_ret
      exact ⟨rfl, HH.out⟩
end Go.Proofs.YtnngnfajmncjpaaGreatDoor.Tx
