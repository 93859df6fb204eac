/- DERIVED. The contract of the program's Join. By an AI agent. -/
import Derived.Test.YtiagagljghoacaaDoorLxBd
import Derived.Test.YtiagagljghoacaaDoorLxWp
namespace Go.Proofs.YtiagagljghoacaaDoor.Lx
open Go Go.ChangeShapes Go.WideShapes Go.ChangeAt Go.RowKit Args
set_option linter.unusedVariables false
set_option linter.unusedSimpArgs false
set_option maxRecDepth 100000 in
set_option maxHeartbeats 4000000 in
theorem pjoin (A : Option Addr) (c : Nat) (l : List Tk) (w : World) (hA : Lies w A (l.flatMap tkC)) (hl : l.length ≤ 100000) (hj : (joinL (l.map Tk.s)).length ≤ 1000000) :
    Calls Tryd.prog 15 #[.slice A l.length c] w fun e w' => e = .returned (.string ⟨(joinL (l.map Tk.s)).toArray⟩) ∧ Below w.heap.size w w' := by
  have hb1 : Bld.IsB w.heap.size [] (w.alloc (.cells #[.pointer none, .slice none 0 0] 43)) ∧ Below w.heap.size w (w.alloc (.cells #[.pointer none, .slice none 0 0] 43)) := ⟨Lib.IsBuilderF.of (Lib.fresh_isBuilder 43 5 w), (Below.refl _ w).alloc (Nat.le_refl _) _⟩
  have HB1 := Lib.hid hb1; have HA := Lib.hid hA; have HJL := Lib.hid hj
  have HWB : Hid (∀ n0 L W, Bld.IsB n0 L W → L.length ≤ 1000000000 → Calls Tryd.prog 25 #[.pointer (some ⟨n0, 0, none⟩), .int .u8 32] W fun e w' => e = .returned .nilIface ∧ Bld.IsB n0 (L ++ [32]) w' ∧ Bld.Kept n0 W w') := Lib.hid fun n0 L W h hl => Bld.wbyte n0 L 32 W h hl
  clear hb1 hA hj
  go_enter Tryd.func15, Tryd.ntmps15
  go_wp2_with fail
  generalize w.alloc (.cells #[.pointer none, .slice none 0 0] 43) = w1 at *
  generalize hn0 : w.heap.size = n0 at *
  have HN0 := Lib.hid hn0
  clear hn0
  go_loopw [9] (fun vi wr => ∃ k : Nat, k ≤ l.length ∧ vi = .int .i64 k ∧ Hid (Bld.IsB n0 (joinL ((l.map Tk.s).take k)) wr ∧ Below n0 w wr)) (fun vi _ => l.length - (intOf vi).toNat)
  case atStart => exact ⟨0, by omega, rfl, Lib.hid ⟨HB1.out.1, HB1.out.2⟩⟩
  case round =>
    obtain ⟨k, hk, rfl, HH⟩ := hrel
    by_cases hlt : k < l.length
    · obtain ⟨t, ht⟩ : ∃ t, l[k]? = some t := ⟨_, List.getElem?_eq_getElem hlt⟩
      obtain ⟨f1, f2, f3⟩ := flat3 l k t ht
      have hLr := HA.out.below (show Below w.heap.size w wr by rw [HN0.out]; exact HH.out.2)
      obtain ⟨b, o, rfl, hblt, hc1⟩ := hLr.at_ f1
      have e1 := hc1 _ _ f1
      have e2 : wr.cell? ⟨b, o + k * 3 + 1, none⟩ = some (.string ⟨t.s.toArray⟩) := by rw [Nat.add_assoc]; exact hc1 _ _ f2
      have e3 : wr.cell? ⟨b, o + k * 3 + 2, none⟩ = some (.int .i64 (t.at_ : Int)) := by rw [Nat.add_assoc]; exact hc1 _ _ f3
      have hj := join_take (l.map Tk.s) k t.s (by rw [List.getElem?_map, ht]; rfl)
      have hl1 := join_take_le (l.map Tk.s) (k + 1)
      rw [hj] at hl1
      simp only [List.length_append] at hl1
      have hJ := HJL.out
      have HJ := Lib.hid hj
      obtain ⟨tk, ts, ta⟩ := t
      dsimp only at e1 e2 e3 hl1
      have HJ2 : Hid (joinL ((l.map Tk.s).take (k + 1)) = joinL ((l.map Tk.s).take k) ++ (if 0 < k then [32] else []) ++ ts) := HJ
      have hb2 : Below wr.heap.size wr (wr.alloc (.cells #[.int .i64 (tk : Int), .string ⟨ts.toArray⟩, .int .i64 (ta : Int)] 31)) := (Below.refl _ _).alloc (Nat.le_refl _) _
      have hnr : n0 ≤ wr.heap.size := by have := HH.out.1.lt; omega
      have H2 := Lib.hid (show Bld.IsB n0 (joinL ((l.map Tk.s).take k)) (wr.alloc (.cells #[.int .i64 (tk : Int), .string ⟨ts.toArray⟩, .int .i64 (ta : Int)] 31)) ∧ Below n0 w (wr.alloc (.cells #[.int .i64 (tk : Int), .string ⟨ts.toArray⟩, .int .i64 (ta : Int)] 31)) ∧ Blk (wr.alloc (.cells #[.int .i64 (tk : Int), .string ⟨ts.toArray⟩, .int .i64 (ta : Int)] 31)) wr.heap.size 31 #[.int .i64 (tk : Int), .string ⟨ts.toArray⟩, .int .i64 (ta : Int)] from ⟨Bld.isB_below HH.out.1 hb2, HH.out.2.trans (hb2.mono hnr), Blk.new _ _ _⟩)
      have hnb : wr.heap.size ≠ n0 := by have := HH.out.1.lt; omega
      clear hj hc1 f1 f2 f3 ht HJ hb2 hLr
      by_cases h0 : 0 < k
      · have i0 : decide ((0 : Int) < (k : Int)) = true := by simp; omega
        have i1 : decide (0 < k) = true := by simp; omega
        go_wp2_with fail
        refine (HWB.out n0 _ _ H2.out.1 (by omega)).mono ?_
        rintro e w3 ⟨rfl, h3, k3⟩
        have b3 : Blk w3 wr.heap.size 31 #[.int .i64 (tk : Int), .string ⟨ts.toArray⟩, .int .i64 (ta : Int)] := k3.oth _ _ H2.out.2.2 (by simp [hnb]) (by intro c fz e; cases e)
        have c3 : w3.cell? ⟨wr.heap.size, 1, none⟩ = some (.string ⟨ts.toArray⟩) := b3.cell 1
        have H3 := Lib.hid (And.intro h3 (H2.out.2.1.trans k3.low))
        clear h3 k3 b3
        go_wp2_with fail
        refine (Bld.wstr n0 _ ts w3 H3.out.1 (by rw [List.length_append]; simp; omega)).mono ?_
        rintro e w4 ⟨⟨x, rfl⟩, h4, k4⟩
        have H4 := Lib.hid (And.intro (show Bld.IsB n0 (joinL ((l.map Tk.s).take (k + 1))) w4 by rw [HJ2.out, if_pos h0]; exact h4) (H3.out.2.trans k4.low))
        clear h4 k4
        go_wp2_with fail
        go_round
        case rel => exact ⟨k + 1, by omega, by go_num, H4⟩
        case measure => simp [intOf]; omega
      · have i0 : decide ((0 : Int) < (k : Int)) = false := by simp; omega
        have i1 : decide (0 < k) = false := by simp; omega
        go_wp2_with fail
        refine (Bld.wstr n0 _ ts _ H2.out.1 (by omega)).mono ?_
        rintro e w4 ⟨⟨x, rfl⟩, h4, k4⟩
        have H4 := Lib.hid (And.intro (show Bld.IsB n0 (joinL ((l.map Tk.s).take (k + 1))) w4 by rw [HJ2.out, if_neg h0, List.append_nil]; exact h4) (H2.out.2.1.trans k4.low))
        clear h4 k4
        go_wp2_with fail
        go_round
        case rel => exact ⟨k + 1, by omega, by go_num, H4⟩
        case measure => simp [intOf]; omega
    · have hkl : (l.map Tk.s).take k = l.map Tk.s := List.take_of_length_le (by simp; omega)
      have hstr := Tryd.Builder_String_any_k n0 n0 (joinL (l.map Tk.s)) wr (by have := HH.out.1; rw [hkl] at this; exact this) (by have := HH.out.1.lt; omega)
      have HS := Lib.hid hstr
      have i2 : ¬ (k : Int) < (l.length : Int) := by omega
      clear hstr hkl
      go_wp2_with fail
      refine HS.out.mono ?_
      rintro e W5 ⟨rfl, _, hb5, _⟩
      have HB5 := Lib.hid hb5
      clear hb5
      go_wp2_with fail
      go_ret
      exact ⟨rfl, HN0.out ▸ HH.out.2.trans HB5.out⟩
end Go.Proofs.YtiagagljghoacaaDoor.Lx
