/- DERIVED. The contract of the laws' few. By an AI agent. -/
import Derived.Test.YtgcmbleinobneaaIpSame
import Derived.Deep.DeepCutAuto
import Derived.Deep.CutBlock
namespace Go.Proofs.Ytgcmbleinobneaa.Ip
open Go.ChangeShapes Go.WideShapes Go.ChangeAt Go.RowKit Args ImRef
set_option linter.unusedVariables false
set_option maxHeartbeats 4000000 in
theorem few (m : Man) (A4 A5 A6 : Option Addr) (c4 c5 c6 : Nat) (w : World) (h4 : Cs w A4 m.se) (h5 : Cs w A5 m.pu) (h6 : Cs w A6 m.ou) :
    Calls Try.prog 8 #[man m A4 A5 A6 c4 c5 c6] w fun e w' => ∃ b, e = .returned (.bool b) ∧ Below w.heap.size w w' := by
  have hb : Below w.heap.size w (w.alloc (.cells (manV m A4 A5 A6 c4 c5 c6) 25)) := (Below.refl _ _).alloc (Nat.le_refl _) _
  have b1 := Blk.new w 25 (manV m A4 A5 A6 c4 c5 c6)
  obtain ⟨W, hW⟩ : ∃ W, W = w.alloc (.cells (manV m A4 A5 A6 c4 c5 c6) 25) := ⟨_, rfl⟩
  rw [← hW] at hb b1
  have L4 := Lib.hid (h4.below hb); have L5 := Lib.hid (h5.below hb); have L6 := Lib.hid (h6.below hb)
  have HB := Lib.hid hb; have HW := Lib.hid hW; have B1 := Lib.hid b1
  have l4 := h4.2.1
  have l5 := h5.2.1
  have l6 := h6.2.1
  clear hb hW b1 h4 h5 h6
  go_enter Try.func8, Try.ntmps8
  go_upto_block 0 with fail
  have HW' := HW.out
  unfold manV at HW'
  rw [← HW']
  clear HW'
  have x4 : W.cell? ⟨w.heap.size, 4, none⟩ = some (.slice A4 m.se.length c4) := B1.out.cell 4
  have x5 : W.cell? ⟨w.heap.size, 5, none⟩ = some (.slice A5 m.pu.length c5) := B1.out.cell 5
  have x6 : W.cell? ⟨w.heap.size, 6, none⟩ = some (.slice A6 m.ou.length c6) := B1.out.cell 6
  go_cut [3] (fun v wx => ∃ n : Int, v = .int .i64 n ∧ 0 ≤ n ∧ n ≤ 200000000000000 ∧ W = wx)
  case first =>
    go_wp2_with fail
    go_loop [3, 4] (fun vn vi => ∃ (k : Nat) (n : Int), k ≤ m.se.length ∧ vi = .int .i64 k ∧ vn = .int .i64 n ∧ 0 ≤ n ∧ n ≤ 200000000000000) (fun _ vi => m.se.length - (intOf vi).toNat)
    case atStart => exact ⟨0, 0, by omega, rfl, rfl, by omega, by omega⟩
    case round =>
      obtain ⟨k, n, hk, rfl, rfl, hn0, hn1⟩ := hrel
      by_cases hlt : k < m.se.length
      · by_cases hn : n ≤ 3000
        · have hc : m.se[k]? = some (m.se[k]'hlt) := List.getElem?_eq_getElem hlt
          have hsz := L4.out.2.2 _ (List.getElem_mem hlt)
          generalize m.se[k]'hlt = c at hc hsz
          obtain ⟨f1, _⟩ := flat2 m.se k c hc
          obtain ⟨b, o, rfl, _, hc1⟩ := L4.out.1.at_ f1
          have e1 := hc1 _ _ f1
          clear hc hc1 f1
          go_wp2_with fail
          go_round
          case rel => exact ⟨k + 1, _, by omega, by go_num, rfl, by omega, by omega⟩
          case measure => simp [intOf]; omega
        · go_wp2_with fail
          go_meet
          exact ⟨n, rfl, hn0, hn1, rfl⟩
      · go_wp2_with fail
        go_meet
        exact ⟨n, rfl, hn0, hn1, rfl⟩
  case rest =>
    obtain ⟨n1, rfl, hn0, hn1, rfl⟩ := hcut
    go_upto_block 2 with fail
    go_cut [3] (fun v wx => ∃ n : Int, v = .int .i64 n ∧ 0 ≤ n ∧ n ≤ 200000000000000 ∧ W = wx)
    case first =>
      go_wp2_with fail
      go_loop [3, 5] (fun vn vi => ∃ (k : Nat) (n : Int), k ≤ m.pu.length ∧ vi = .int .i64 k ∧ vn = .int .i64 n ∧ 0 ≤ n ∧ n ≤ 200000000000000) (fun _ vi => m.pu.length - (intOf vi).toNat)
      case atStart => exact ⟨0, n1, by omega, rfl, rfl, hn0, hn1⟩
      case round =>
        obtain ⟨k, n, hk, rfl, rfl, hn0, hn1⟩ := hrel
        by_cases hlt : k < m.pu.length
        · by_cases hn : n ≤ 3000
          · have hc : m.pu[k]? = some (m.pu[k]'hlt) := List.getElem?_eq_getElem hlt
            have hsz := L5.out.2.2 _ (List.getElem_mem hlt)
            generalize m.pu[k]'hlt = c at hc hsz
            obtain ⟨f1, _⟩ := flat2 m.pu k c hc
            obtain ⟨b, o, rfl, _, hc1⟩ := L5.out.1.at_ f1
            have e1 := hc1 _ _ f1
            clear hc hc1 f1
            go_wp2_with fail
            go_round
            case rel => exact ⟨k + 1, _, by omega, by go_num, rfl, by omega, by omega⟩
            case measure => simp [intOf]; omega
          · go_wp2_with fail
            go_meet
            exact ⟨n, rfl, hn0, hn1, rfl⟩
        · go_wp2_with fail
          go_meet
          exact ⟨n, rfl, hn0, hn1, rfl⟩
    case rest =>
      obtain ⟨n2, rfl, hn0, hn1, rfl⟩ := hcut
      go_upto_block 4 with fail
      go_cut [3] (fun v wx => ∃ n : Int, v = .int .i64 n ∧ 0 ≤ n ∧ n ≤ 200000000000000 ∧ W = wx)
      case first =>
        go_wp2_with fail
        go_loop [3, 6] (fun vn vi => ∃ (k : Nat) (n : Int), k ≤ m.ou.length ∧ vi = .int .i64 k ∧ vn = .int .i64 n ∧ 0 ≤ n ∧ n ≤ 200000000000000) (fun _ vi => m.ou.length - (intOf vi).toNat)
        case atStart => exact ⟨0, n2, by omega, rfl, rfl, hn0, hn1⟩
        case round =>
          obtain ⟨k, n, hk, rfl, rfl, hn0, hn1⟩ := hrel
          by_cases hlt : k < m.ou.length
          · by_cases hn : n ≤ 3000
            · have hc : m.ou[k]? = some (m.ou[k]'hlt) := List.getElem?_eq_getElem hlt
              have hsz := L6.out.2.2 _ (List.getElem_mem hlt)
              generalize m.ou[k]'hlt = c at hc hsz
              obtain ⟨f1, _⟩ := flat2 m.ou k c hc
              obtain ⟨b, o, rfl, _, hc1⟩ := L6.out.1.at_ f1
              have e1 := hc1 _ _ f1
              clear hc hc1 f1
              go_wp2_with fail
              go_round
              case rel => exact ⟨k + 1, _, by omega, by go_num, rfl, by omega, by omega⟩
              case measure => simp [intOf]; omega
            · go_wp2_with fail
              go_meet
              exact ⟨n, rfl, hn0, hn1, rfl⟩
          · go_wp2_with fail
            go_meet
            exact ⟨n, rfl, hn0, hn1, rfl⟩
      case rest =>
        obtain ⟨n3, rfl, hn0, hn1, rfl⟩ := hcut
        by_cases hle : n3 ≤ 3000
        · go_wp2_with fail
          go_ret
          exact ⟨_, rfl, HB.out⟩
        · go_wp2_with fail
          go_ret
          exact ⟨.inl rfl, HB.out⟩
end Go.Proofs.Ytgcmbleinobneaa.Ip
