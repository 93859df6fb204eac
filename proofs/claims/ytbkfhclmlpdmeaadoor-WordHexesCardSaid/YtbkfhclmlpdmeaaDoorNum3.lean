/- DERIVED. The contract of the reference's Number. By an AI agent. -/
import Derived.Test.YtbkfhclmlpdmeaaDoorNum2
import Derived.Deep.DeepCutAuto
import Derived.WalkSmall
namespace Go.Proofs.YtbkfhclmlpdmeaaDoor.Num
open Go.ChangeShapes Go.WideShapes Go.ChangeAt Go.RowKit WMath Word
set_option linter.unusedVariables false
/-- The reference's digits, in its order. -/
def DL : ByteArray := ⟨#[48, 49, 50, 51, 52, 53, 54, 55, 56, 57, 97, 98, 99, 100, 101, 102, 65, 66, 67, 68, 69, 70]⟩
def dlN (k : Nat) : Nat := ((DL[k]?).getD 0).toNat
theorem dl_at (k : Nat) (h : k < DL.size) : (DL[k]'h).toNat = dlN k := by
  unfold dlN; rw [getElem?_pos DL k h]; rfl
/-- What the reference's inner loop holds after k rounds. -/
def dTo (c : Nat) : Nat → Nat
  | 0 => 99
  | k + 1 => if dlN k = c then (if 15 < k then k - 6 else k) else dTo c k
theorem dTo_end (c : Nat) (hc : c < 256) : dTo c 22 = if dvN c = 16 then 99 else dvN c := by
  have : ∀ i : Fin 256, dTo i.val 22 = if dvN i.val = 16 then 99 else dvN i.val := by decide +kernel
  exact this ⟨c, hc⟩
def byteN (s : ByteArray) (i : Nat) : Nat := ((s.data.toList)[i]?.getD 0).toNat
theorem byteN_at (s : ByteArray) (i : Nat) (h : i < s.size) : byteN s i = (s[i]'h).toNat := by
  have h' : i < s.data.toList.length := by simpa using h
  unfold byteN; rw [List.getElem?_eq_getElem h']; rfl
def preB (s : ByteArray) : Bool := decide (1 < s.size) && (decide (byteN s 0 = 48) && decide (byteN s 1 = 120))
theorem idx_dl (j : Nat) (hj : j < 22) (w : World) : (Instr.index 9 (.string ⟨#[48, 49, 50, 51, 52, 53, 54, 55, 56, 57, 97, 98, 99, 100, 101, 102, 65, 66, 67, 68, 69, 70]⟩) (.int .i64 (j : Int))).run Tryd.prog w = .ok (.int .u8 ((dlN j : Nat) : Int)) w := by
  have hs : DL.size = 22 := by decide
  show (Instr.index 9 (.string DL) (.int .i64 (j : Int))).run Tryd.prog w = _
  rw [run_index_string w 9 DL .i64 j Tryd.underlying9, dif_pos ⟨by omega, by rw [hs]; omega⟩]
  have e : ((j : Int)).toNat = j := by omega
  simp only [e]
  rw [dl_at j (by rw [hs]; exact hj)]
theorem idx_s (s : ByteArray) (k : Nat) (hk : k < s.size) (w : World) : (Instr.index 9 (.string s) (.int .i64 (k : Int))).run Tryd.prog w = .ok (.int .u8 ((s[k].toNat : Nat) : Int)) w := by
  rw [run_index_string w 9 s .i64 k Tryd.underlying9, dif_pos ⟨by omega, by omega⟩]
  have e : ((k : Int)).toNat = k := by omega
  simp only [e]
theorem numR_drop_nil (base : Nat) (s : ByteArray) (a : Nat) (h : s.size = a) : numR base (s.data.toList.drop a) = (0, 4) := by
  rw [List.drop_of_length_le (by simp; omega)]; rfl
theorem drop_ne (s : ByteArray) (a : Nat) (h : a < s.size) : s.data.toList.drop a ≠ [] := by
  intro e
  have := congrArg List.length e
  simp at this
  omega
theorem numR_none' (base : Nat) (L : List UInt8) (h : L ≠ []) (hr : nrun base L 0 = none) : numR base L = (0, 4) := by
  unfold numR; rw [if_neg h, hr]
theorem numR_some' (base : Nat) (L : List UInt8) (n : Nat) (h : L ≠ []) (hr : nrun base L 0 = some n) : numR base L = if n = 4294967296 then (0, 2) else (n, 0) := by
  unfold numR; rw [if_neg h, hr]
theorem pre_size (s : ByteArray) {hex : Bool} (h : preB s = hex) : hex = true → 2 ≤ s.size := by
  intro e
  subst e
  unfold preB at h
  simp at h
  omega
set_option maxHeartbeats 3200000 in
theorem rnumC (hex : Bool) (s : ByteArray) (w : World) (hp : preB s = hex) (hsz : s.size ≤ maxLen) :
    Calls Tryd.prog 21 #[.string s] w fun e w' => e = .returned (resN (numR (if hex then 16 else 10) (s.data.toList.drop (if hex then 2 else 0)))) ∧ ∃ m, w' = w.drewN m := by
  unfold maxLen at hsz
  have HP := Lib.hid hp
  clear hp
  go_enter Tryd.func21, Tryd.ntmps21
  go_upto_region 2 with fail
  go_cut [24] (fun v wx => v = .bool hex ∧ w = wx)
  case first =>
    by_cases h1 : 1 < s.size
    · have b0 := byteN_at s 0 (by omega)
      have b1 := byteN_at s 1 h1
      have c0 : s[0].toNat < 256 := s[0].toNat_lt
      have c1 : s[1].toNat < 256 := s[1].toNat_lt
      by_cases h2 : s[0].toNat = 48
      · have e2 : ((s[0].toNat : Int) == 48) = true := by simp [h2]
        by_cases h3 : s[1].toNat = 120
        · have e3 : ((s[1].toNat : Int) == 120) = true := by simp [h3]
          have hfin : preB s = true := by unfold preB; rw [b0, b1, h2, h3]; simp [h1]
          have HF := Lib.hid hfin
          clear hfin b0 b1 h2 h3
          go_wp2_with fail
          go_meet
          exact ⟨by rw [← HP.out, HF.out], rfl⟩
        · have e3 : ((s[1].toNat : Int) == 120) = false := by simp; omega
          have hfin : preB s = false := by unfold preB; rw [b0, b1]; simp [h3]
          have HF := Lib.hid hfin
          clear hfin b0 b1 h2 h3
          go_wp2_with fail
          go_meet
          exact ⟨by rw [← HP.out, HF.out], rfl⟩
      · have e2 : ((s[0].toNat : Int) == 48) = false := by simp; omega
        have hfin : preB s = false := by unfold preB; rw [b0, b1]; simp [h2]
        have HF := Lib.hid hfin
        clear hfin b0 b1 h2
        go_wp2_with fail
        go_meet
        exact ⟨by rw [← HP.out, HF.out], rfl⟩
    · have hfin : preB s = false := by unfold preB; simp [h1]
      have HF := Lib.hid hfin
      clear hfin
      go_wp2_with fail
      go_meet
      exact ⟨by rw [← HP.out, HF.out], rfl⟩
  case rest =>
    obtain ⟨rfl, rfl⟩ := hcut
    have hsz2 := pre_size s HP.out
    cases hex
    · clear hsz2
      go_wp2
      go_loopw [6, 7, 9] (fun vn vl vi wr => ∃ k n m : Nat, 0 ≤ k ∧ k ≤ s.size ∧ vi = .int .i64 k ∧ vn = .int .u64 n ∧ vl = .bool (decide (4294967296 ≤ n)) ∧ n ≤ 4294967296 ∧ Hid (nrun 10 (s.data.toList.drop 0) 0 = nrun 10 (s.data.toList.drop k) n) ∧ wr = w.drewN m) (fun _ _ vi _ => s.size - (intOf vi).toNat)
      case atStart => exact ⟨0, 0, 0, by omega, by omega, rfl, rfl, rfl, by omega, Lib.hid rfl, rfl⟩
      case round =>
        obtain ⟨k, n, m, hk0, hk, rfl, rfl, rfl, hn, HI, rfl⟩ := hrel
        by_cases hlt : k < s.size
        · have hsx := idx_s s k hlt
          have hc := s[k].toNat_lt
          have hst := nrun_step 10 s k n hlt
          have hno := nrun_none 10 s k n hlt
          generalize s[k].toNat = c at hsx hc hst hno
          have HST := Lib.hid hst; have HNO := Lib.hid hno
          clear hst hno
          go_wp2_with fail
          go_loopw [10, 11] (fun vd vj wr => ∃ j q : Nat, j ≤ 22 ∧ vj = .int .i64 j ∧ vd = .int .u64 ((dTo c j : Nat) : Int) ∧ wr = w.drewN q) (fun _ vj _ => 22 - (intOf vj).toNat)
          case atStart => exact ⟨0, m, by omega, rfl, rfl, rfl⟩
          case round =>
            obtain ⟨j, q, hj, rfl, rfl, rfl⟩ := hrel
            by_cases hj22 : j < 22
            · have hix := idx_dl j hj22
              have hT : dTo c (j + 1) = if dlN j = c then (if 15 < j then j - 6 else j) else dTo c j := rfl
              generalize dTo c j = e0 at hT ⊢
              generalize dlN j = x at hix hT
              have HT := Lib.hid hT
              clear hT
              by_cases hxc : x = c
              · have e1 : ((x : Int) == (c : Int)) = true := by simp [hxc]
                have HX := Lib.hid hxc
                clear hxc
                by_cases h15 : 15 < j
                · go_wp2_with fail
                  go_quiet (fail)
                  go_wp2
                  go_roundw
                  case rel => exact ⟨j + 1, _, by omega, by go_num, by rw [HT.out, if_pos HX.out, if_pos h15]; go_num, rfl⟩
                  case measure => simp [intOf]; omega
                · go_wp2_with fail
                  go_quiet (fail)
                  go_wp2
                  go_roundw
                  case rel => exact ⟨j + 1, _, by omega, by go_num, by rw [HT.out, if_pos HX.out, if_neg h15], rfl⟩
                  case measure => simp [intOf]; omega
              · have e1 : ((x : Int) == (c : Int)) = false := by simp; omega
                have HX : Hid (¬ x = c) := Lib.hid hxc
                clear hxc
                go_wp2_with fail
                go_quiet (fail)
                go_wp2
                go_roundw
                case rel => exact ⟨j + 1, _, by omega, by go_num, by rw [HT.out, if_neg HX.out], rfl⟩
                case measure => simp [intOf]; omega
            · have : j = 22 := by omega
              subst this
              have hT := dTo_end c hc
              generalize dTo c 22 = e0 at hT ⊢
              have hdl := dvN_le c
              by_cases hd : dvN c < 10
              · rw [if_neg (by omega)] at hT
                have HS := HST.out hd
                subst hT
                generalize dvN c = d at hd hdl HS ⊢
                have HS' := Lib.hid HS
                clear HS
                by_cases hbig : 4294967296 ≤ n * 10 + d
                · go_wp2
                  go_roundw
                  case rel => exact ⟨k + 1, 4294967296, q, by omega, by omega, by go_num, rfl, rfl, by omega, Lib.hid (by rw [HI.out, HS'.out, Nat.min_eq_right hbig]), rfl⟩
                  case measure => simp [intOf]; omega
                · go_wp2
                  go_roundw
                  case rel => exact ⟨k + 1, n * 10 + d, q, by omega, by omega, by go_num, by go_num, by rw [decide_eq_false (by omega), decide_eq_false (by omega)], by omega, Lib.hid (by rw [HI.out, HS'.out, Nat.min_eq_left (by omega)]), rfl⟩
                  case measure => simp [intOf]; omega
              · have hno := HNO.out hd
                rw [← HI.out] at hno
                have he : 10 ≤ e0 := by split at hT <;> omega
                have hfin := numR_none' 10 _ (drop_ne s 0 (by omega)) hno
                have HF := Lib.hid hfin
                clear hT hno hfin hd hdl
                go_wp2
                go_ret2
                exact ⟨by show _ = Ending.returned (resN (numR 10 (List.drop 0 s.data.toList))); rw [HF.out]; rfl, q, rfl⟩
        · have : k = s.size := by omega
          subst this
          have hI := HI.out
          rw [nrun_end] at hI
          by_cases h0 : s.size = 0
          · have hfin := numR_drop_nil 10 s 0 h0
            have e0 : ((0 : Int) == (s.size : Int)) = true := by simp; omega
            have HF := Lib.hid hfin
            clear hfin hI HI h0
            go_wp2
            go_ret2
            exact ⟨by show _ = Ending.returned (resN (numR 10 (List.drop 0 s.data.toList))); rw [HF.out]; rfl, m, rfl⟩
          · have hfin := numR_some' 10 _ n (drop_ne s 0 (by omega)) hI
            have e0 : ((0 : Int) == (s.size : Int)) = false := by simp; omega
            by_cases hl : 4294967296 ≤ n
            · rw [if_pos (by omega)] at hfin
              have HF := Lib.hid hfin
              clear hfin hI HI
              go_wp2
              go_ret2
              exact ⟨by show _ = Ending.returned (resN (numR 10 (List.drop 0 s.data.toList))); rw [HF.out]; rfl, m, rfl⟩
            · rw [if_neg (by omega)] at hfin
              have HF := Lib.hid hfin
              clear hfin hI HI
              go_wp2
              go_ret2
              exact ⟨by show _ = Ending.returned (resN (numR 10 (List.drop 0 s.data.toList))); rw [HF.out]; rfl, m, rfl⟩
    · have hsz3 := hsz2 rfl
      clear hsz2
      go_wp2
      go_loopw [6, 7, 9] (fun vn vl vi wr => ∃ k n m : Nat, 2 ≤ k ∧ k ≤ s.size ∧ vi = .int .i64 k ∧ vn = .int .u64 n ∧ vl = .bool (decide (4294967296 ≤ n)) ∧ n ≤ 4294967296 ∧ Hid (nrun 16 (s.data.toList.drop 2) 0 = nrun 16 (s.data.toList.drop k) n) ∧ wr = w.drewN m) (fun _ _ vi _ => s.size - (intOf vi).toNat)
      case atStart => exact ⟨2, 0, 0, by omega, by omega, rfl, rfl, rfl, by omega, Lib.hid rfl, rfl⟩
      case round =>
        obtain ⟨k, n, m, hk0, hk, rfl, rfl, rfl, hn, HI, rfl⟩ := hrel
        by_cases hlt : k < s.size
        · have hsx := idx_s s k hlt
          have hc := s[k].toNat_lt
          have hst := nrun_step 16 s k n hlt
          have hno := nrun_none 16 s k n hlt
          generalize s[k].toNat = c at hsx hc hst hno
          have HST := Lib.hid hst; have HNO := Lib.hid hno
          clear hst hno
          go_wp2_with fail
          go_loopw [10, 11] (fun vd vj wr => ∃ j q : Nat, j ≤ 22 ∧ vj = .int .i64 j ∧ vd = .int .u64 ((dTo c j : Nat) : Int) ∧ wr = w.drewN q) (fun _ vj _ => 22 - (intOf vj).toNat)
          case atStart => exact ⟨0, m, by omega, rfl, rfl, rfl⟩
          case round =>
            obtain ⟨j, q, hj, rfl, rfl, rfl⟩ := hrel
            by_cases hj22 : j < 22
            · have hix := idx_dl j hj22
              have hT : dTo c (j + 1) = if dlN j = c then (if 15 < j then j - 6 else j) else dTo c j := rfl
              generalize dTo c j = e0 at hT ⊢
              generalize dlN j = x at hix hT
              have HT := Lib.hid hT
              clear hT
              by_cases hxc : x = c
              · have e1 : ((x : Int) == (c : Int)) = true := by simp [hxc]
                have HX := Lib.hid hxc
                clear hxc
                by_cases h15 : 15 < j
                · go_wp2_with fail
                  go_quiet (fail)
                  go_wp2
                  go_roundw
                  case rel => exact ⟨j + 1, _, by omega, by go_num, by rw [HT.out, if_pos HX.out, if_pos h15]; go_num, rfl⟩
                  case measure => simp [intOf]; omega
                · go_wp2_with fail
                  go_quiet (fail)
                  go_wp2
                  go_roundw
                  case rel => exact ⟨j + 1, _, by omega, by go_num, by rw [HT.out, if_pos HX.out, if_neg h15], rfl⟩
                  case measure => simp [intOf]; omega
              · have e1 : ((x : Int) == (c : Int)) = false := by simp; omega
                have HX : Hid (¬ x = c) := Lib.hid hxc
                clear hxc
                go_wp2_with fail
                go_quiet (fail)
                go_wp2
                go_roundw
                case rel => exact ⟨j + 1, _, by omega, by go_num, by rw [HT.out, if_neg HX.out], rfl⟩
                case measure => simp [intOf]; omega
            · have : j = 22 := by omega
              subst this
              have hT := dTo_end c hc
              generalize dTo c 22 = e0 at hT ⊢
              have hdl := dvN_le c
              by_cases hd : dvN c < 16
              · rw [if_neg (by omega)] at hT
                have HS := HST.out hd
                subst hT
                generalize dvN c = d at hd hdl HS ⊢
                have HS' := Lib.hid HS
                clear HS
                by_cases hbig : 4294967296 ≤ n * 16 + d
                · go_wp2
                  go_roundw
                  case rel => exact ⟨k + 1, 4294967296, q, by omega, by omega, by go_num, rfl, rfl, by omega, Lib.hid (by rw [HI.out, HS'.out, Nat.min_eq_right hbig]), rfl⟩
                  case measure => simp [intOf]; omega
                · go_wp2
                  go_roundw
                  case rel => exact ⟨k + 1, n * 16 + d, q, by omega, by omega, by go_num, by go_num, by rw [decide_eq_false (by omega), decide_eq_false (by omega)], by omega, Lib.hid (by rw [HI.out, HS'.out, Nat.min_eq_left (by omega)]), rfl⟩
                  case measure => simp [intOf]; omega
              · have hno := HNO.out hd
                rw [← HI.out] at hno
                have he : 16 ≤ e0 := by split at hT <;> omega
                have hfin := numR_none' 16 _ (drop_ne s 2 (by omega)) hno
                have HF := Lib.hid hfin
                clear hT hno hfin hd hdl
                go_wp2
                go_ret2
                exact ⟨by show _ = Ending.returned (resN (numR 16 (List.drop 2 s.data.toList))); rw [HF.out]; rfl, q, rfl⟩
        · have : k = s.size := by omega
          subst this
          have hI := HI.out
          rw [nrun_end] at hI
          by_cases h0 : s.size = 2
          · have hfin := numR_drop_nil 16 s 2 h0
            have e0 : ((2 : Int) == (s.size : Int)) = true := by simp; omega
            have HF := Lib.hid hfin
            clear hfin hI HI h0
            go_wp2
            go_ret2
            exact ⟨by show _ = Ending.returned (resN (numR 16 (List.drop 2 s.data.toList))); rw [HF.out]; rfl, m, rfl⟩
          · have hfin := numR_some' 16 _ n (drop_ne s 2 (by omega)) hI
            have e0 : ((2 : Int) == (s.size : Int)) = false := by simp; omega
            by_cases hl : 4294967296 ≤ n
            · rw [if_pos (by omega)] at hfin
              have HF := Lib.hid hfin
              clear hfin hI HI
              go_wp2
              go_ret2
              exact ⟨by show _ = Ending.returned (resN (numR 16 (List.drop 2 s.data.toList))); rw [HF.out]; rfl, m, rfl⟩
            · rw [if_neg (by omega)] at hfin
              have HF := Lib.hid hfin
              clear hfin hI HI
              go_wp2
              go_ret2
              exact ⟨by show _ = Ending.returned (resN (numR 16 (List.drop 2 s.data.toList))); rw [HF.out]; rfl, m, rfl⟩
theorem pre_eq (s : ByteArray) : Lib.hasPrefix s.data.toList [48, 120] = preB s := by
  have hz : s.data.toList.length = s.size := by simp
  unfold Lib.hasPrefix preB byteN
  rw [← hz]
  match s.data.toList with
  | [] => rfl
  | [a] => simp [List.isPrefixOf]
  | a :: b :: l =>
    have h8 : ∀ x y : UInt8, (x == y) = decide (y.toNat = x.toNat) := fun x y => by
      rw [Bool.eq_iff_iff, beq_iff_eq, decide_eq_true_iff]
      exact ⟨fun h => by rw [h], fun h => (UInt8.toNat_inj.1 h).symm⟩
    simp [List.isPrefixOf, h8]
end Go.Proofs.YtbkfhclmlpdmeaaDoor.Num
namespace Go.Proofs.YtbkfhclmlpdmeaaDoor
open Go.ChangeShapes Go.WideShapes Go.ChangeAt Go.RowKit WMath Word Lives Num
set_option linter.unusedVariables false
set_option maxHeartbeats 800000 in
theorem wordNumbers.walk (s : ByteArray) (hs : s.size ≤ maxLen) (W : World) (hL : Lv W) :
    Calls Tryd.prog 6 #[.string s] W fun e w' => e = .returned (.bool true) ∧ Below W.heap.size W w' := by
  have HL := Lib.hid hL
  clear hL
  have hlen : (Lib.trimPrefix s.data.toList [48, 120]).length ≤ s.data.toList.length := Lib.trimPrefix_le _ _
  have hz : s.data.toList.length = s.size := by simp
  have hD : (⟨(Lib.trimPrefix s.data.toList [48, 120]).toArray⟩ : ByteArray).data.toList = s.data.toList.drop (if preB s then 2 else 0) := by
    show Lib.trimPrefix s.data.toList [48, 120] = _
    unfold Lib.trimPrefix
    rw [pre_eq]
    cases preB s <;> rfl
  have hsz : (⟨(Lib.trimPrefix s.data.toList [48, 120]).toArray⟩ : ByteArray).size ≤ maxLen := by
    show (Lib.trimPrefix s.data.toList [48, 120]).toArray.size ≤ maxLen
    simp; omega
  have c1 := fun w => numC (preB s) s _ w (pre_eq s) rfl hsz
  rw [hD] at c1
  have c2 := fun w => rnumC (preB s) s w rfl hs
  generalize numR (if preB s = true then 16 else 10) (s.data.toList.drop (if preB s = true then 2 else 0)) = r at c1 c2
  obtain ⟨n, e0⟩ := r
  simp only [resN] at c1 c2
  have C1 := Lib.hid c1; have C2 := Lib.hid c2
  clear c1 c2 hD hsz hlen hz
  unfold maxLen at hs
  by_cases h3 : 300 < s.size
  · go_enter Tryd.func6, Tryd.ntmps6
    go_wp2_with (go_at_call 13; refine (lives _ HL.out).mono ?_; rintro e w' ⟨rfl, hb⟩)
    go_ret
    exact ⟨rfl, hb⟩
  · go_enter Tryd.func6, Tryd.ntmps6
    go_wp2_with fail
    refine (C1.out _).mono ?_; rintro e w' ⟨rfl, rfl⟩
    go_wp2_with fail
    refine (C2.out _).mono ?_; rintro e w' ⟨rfl, m, rfl⟩
    have hb1 : Below W.heap.size W (W.drewN m) := below_drewN (Below.refl _ _) m
    go_wp2_with (go_at_call 13; refine (lives _ (HL.out.below hb1)).mono ?_; rintro e w' ⟨rfl, hb⟩)
    go_ret
    exact ⟨rfl, hb1.trans (hb.mono hb1.size)⟩
end Go.Proofs.YtbkfhclmlpdmeaaDoor
