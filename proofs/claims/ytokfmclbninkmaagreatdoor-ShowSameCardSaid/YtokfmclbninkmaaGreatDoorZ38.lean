/- DERIVED. RqNum, RqNd, RqEx in one text. By an AI agent. -/
import Derived.Test.YtokfmclbninkmaaGreatDoorZ19
import Derived.Deep.DeepCutAuto
import Derived.WalkSmall
import Derived.Test.YtokfmclbninkmaaGreatDoorZ37
import Derived.Test.YtokfmclbninkmaaGreatDoorZ20
/- DERIVED. The contract of the reference's Number. By an AI agent. -/
namespace Go.Proofs.YtokfmclbninkmaaGreatDoor.Num
open Go.ChangeShapes Go.WideShapes Go.ChangeAt Go.RowKit
set_option linter.unusedVariables false
/-- The reference's digits, in its order. -/
def DL : ByteArray := ⟨#[48, 49, 50, 51, 52, 53, 54, 55, 56, 57, 97, 98, 99, 100, 101, 102, 65, 66, 67, 68, 69, 70]⟩
def dlN (k : Nat) : Nat := ((DL[k]?).getD 0).toNat
theorem dl_at (k : Nat) (h : k < DL.size) : (DL[k]'h).toNat = dlN k := by
  unfold dlN; rw [getElem?_pos DL k h]; rfl
/-- What the reference's inner loop holds after k rounds. -/
def dTo (c : Nat) : Nat → Nat
  | 0 => 99
  | k + 1 => if dlN k = c then (if 15 < k then k - 6 else k) else dTo c k
theorem dTo_end (c : Nat) (hc : c < 256) : dTo c 22 = if dvN c = 16 then 99 else dvN c := by
  have : ∀ i : Fin 256, dTo i.val 22 = if dvN i.val = 16 then 99 else dvN i.val := by decide +kernel
  exact this ⟨c, hc⟩
def byteN (s : ByteArray) (i : Nat) : Nat := ((s.data.toList)[i]?.getD 0).toNat
theorem byteN_at (s : ByteArray) (i : Nat) (h : i < s.size) : byteN s i = (s[i]'h).toNat := by
  have h' : i < s.data.toList.length := by simpa using h
  unfold byteN; rw [List.getElem?_eq_getElem h']; rfl
def preB (s : ByteArray) : Bool := decide (1 < s.size) && (decide (byteN s 0 = 48) && decide (byteN s 1 = 120))
theorem idx_dl (j : Nat) (hj : j < 22) (w : World) : (Instr.index 9 (.string ⟨#[48, 49, 50, 51, 52, 53, 54, 55, 56, 57, 97, 98, 99, 100, 101, 102, 65, 66, 67, 68, 69, 70]⟩) (.int .i64 (j : Int))).run Tryz.prog w = .ok (.int .u8 ((dlN j : Nat) : Int)) w := by
  have hs : DL.size = 22 := by decide
  show (Instr.index 9 (.string DL) (.int .i64 (j : Int))).run Tryz.prog w = _
  rw [run_index_string w 9 DL .i64 j Tryz.underlying9, dif_pos ⟨by omega, by rw [hs]; omega⟩]
  have e : ((j : Int)).toNat = j := by omega
  simp only [e]
  rw [dl_at j (by rw [hs]; exact hj)]
theorem idx_s (s : ByteArray) (k : Nat) (hk : k < s.size) (w : World) : (Instr.index 9 (.string s) (.int .i64 (k : Int))).run Tryz.prog w = .ok (.int .u8 ((s[k].toNat : Nat) : Int)) w := by
  rw [run_index_string w 9 s .i64 k Tryz.underlying9, dif_pos ⟨by omega, by omega⟩]
  have e : ((k : Int)).toNat = k := by omega
  simp only [e]
theorem numR_drop_nil (base : Nat) (s : ByteArray) (a : Nat) (h : s.size = a) : numR base (s.data.toList.drop a) = (0, 4) := by
  rw [List.drop_of_length_le (by simp; omega)]; rfl
theorem drop_ne (s : ByteArray) (a : Nat) (h : a < s.size) : s.data.toList.drop a ≠ [] := by
  intro e
  have := congrArg List.length e
  simp at this
  omega
theorem numR_none' (base : Nat) (L : List UInt8) (h : L ≠ []) (hr : nrun base L 0 = none) : numR base L = (0, 4) := by
  unfold numR; rw [if_neg h, hr]
theorem numR_some' (base : Nat) (L : List UInt8) (n : Nat) (h : L ≠ []) (hr : nrun base L 0 = some n) : numR base L = if n = 4294967296 then (0, 2) else (n, 0) := by
  unfold numR; rw [if_neg h, hr]
theorem pre_size (s : ByteArray) {hex : Bool} (h : preB s = hex) : hex = true → 2 ≤ s.size := by
  intro e
  subst e
  unfold preB at h
  simp at h
  omega
set_option maxHeartbeats 3200000 in
theorem rnumC (hex : Bool) (s : ByteArray) (w : World) (hp : preB s = hex) (hsz : s.size ≤ maxLen) :
    Calls Tryz.prog 92 #[.string s] w fun e w' => e = .returned (resN (numR (if hex then 16 else 10) (s.data.toList.drop (if hex then 2 else 0)))) ∧ ∃ m, w' = w.drewN m := by
  unfold maxLen at hsz
  have HP := Lib.hid hp
  clear hp
  go_enter Tryz.func92, Tryz.ntmps92
  go_upto_region 2 with fail
  go_cut [24] (fun v wx => v = .bool hex ∧ w = wx)
  case first =>
    by_cases h1 : 1 < s.size
    · have b0 := byteN_at s 0 (by omega)
      have b1 := byteN_at s 1 h1
      have c0 : s[0].toNat < 256 := s[0].toNat_lt
      have c1 : s[1].toNat < 256 := s[1].toNat_lt
      by_cases h2 : s[0].toNat = 48
      · have e2 : ((s[0].toNat : Int) == 48) = true := by simp [h2]
        by_cases h3 : s[1].toNat = 120
        · have e3 : ((s[1].toNat : Int) == 120) = true := by simp [h3]
          have hfin : preB s = true := by unfold preB; rw [b0, b1, h2, h3]; simp [h1]
          have HF := Lib.hid hfin
          clear hfin b0 b1 h2 h3
          go_wp2_with fail
          go_meet
          exact ⟨by rw [← HP.out, HF.out], rfl⟩
        · have e3 : ((s[1].toNat : Int) == 120) = false := by simp; omega
          have hfin : preB s = false := by unfold preB; rw [b0, b1]; simp [h3]
          have HF := Lib.hid hfin
          clear hfin b0 b1 h2 h3
          go_wp2_with fail
          go_meet
          exact ⟨by rw [← HP.out, HF.out], rfl⟩
      · have e2 : ((s[0].toNat : Int) == 48) = false := by simp; omega
        have hfin : preB s = false := by unfold preB; rw [b0, b1]; simp [h2]
        have HF := Lib.hid hfin
        clear hfin b0 b1 h2
        go_wp2_with fail
        go_meet
        exact ⟨by rw [← HP.out, HF.out], rfl⟩
    · have hfin : preB s = false := by unfold preB; simp [h1]
      have HF := Lib.hid hfin
      clear hfin
      go_wp2_with fail
      go_meet
      exact ⟨by rw [← HP.out, HF.out], rfl⟩
  case rest =>
    obtain ⟨rfl, rfl⟩ := hcut
    have hsz2 := pre_size s HP.out
    cases hex
    · clear hsz2
      go_wp2
      go_loopw [6, 7, 9] (fun vn vl vi wr => ∃ k n m : Nat, 0 ≤ k ∧ k ≤ s.size ∧ vi = .int .i64 k ∧ vn = .int .u64 n ∧ vl = .bool (decide (4294967296 ≤ n)) ∧ n ≤ 4294967296 ∧ Hid (nrun 10 (s.data.toList.drop 0) 0 = nrun 10 (s.data.toList.drop k) n) ∧ wr = w.drewN m) (fun _ _ vi _ => s.size - (intOf vi).toNat)
      case atStart => exact ⟨0, 0, 0, by omega, by omega, rfl, rfl, rfl, by omega, Lib.hid rfl, rfl⟩
      case round =>
        obtain ⟨k, n, m, hk0, hk, rfl, rfl, rfl, hn, HI, rfl⟩ := hrel
        by_cases hlt : k < s.size
        · have hsx := idx_s s k hlt
          have hc := s[k].toNat_lt
          have hst := nrun_step 10 s k n hlt
          have hno := nrun_none 10 s k n hlt
          generalize s[k].toNat = c at hsx hc hst hno
          have HST := Lib.hid hst; have HNO := Lib.hid hno
          clear hst hno
          go_wp2_with fail
          go_loopw [10, 11] (fun vd vj wr => ∃ j q : Nat, j ≤ 22 ∧ vj = .int .i64 j ∧ vd = .int .u64 ((dTo c j : Nat) : Int) ∧ wr = w.drewN q) (fun _ vj _ => 22 - (intOf vj).toNat)
          case atStart => exact ⟨0, m, by omega, rfl, rfl, rfl⟩
          case round =>
            obtain ⟨j, q, hj, rfl, rfl, rfl⟩ := hrel
            by_cases hj22 : j < 22
            · have hix := idx_dl j hj22
              have hT : dTo c (j + 1) = if dlN j = c then (if 15 < j then j - 6 else j) else dTo c j := rfl
              generalize dTo c j = e0 at hT ⊢
              generalize dlN j = x at hix hT
              have HT := Lib.hid hT
              clear hT
              by_cases hxc : x = c
              · have e1 : ((x : Int) == (c : Int)) = true := by simp [hxc]
                have HX := Lib.hid hxc
                clear hxc
                by_cases h15 : 15 < j
                · go_wp2_with fail
                  go_quiet (fail)
                  go_wp2
                  go_roundw
                  case rel => exact ⟨j + 1, _, by omega, by go_num, by rw [HT.out, if_pos HX.out, if_pos h15]; go_num, rfl⟩
                  case measure => simp [intOf]; omega
                · go_wp2_with fail
                  go_quiet (fail)
                  go_wp2
                  go_roundw
                  case rel => exact ⟨j + 1, _, by omega, by go_num, by rw [HT.out, if_pos HX.out, if_neg h15], rfl⟩
                  case measure => simp [intOf]; omega
              · have e1 : ((x : Int) == (c : Int)) = false := by simp; omega
                have HX : Hid (¬ x = c) := Lib.hid hxc
                clear hxc
                go_wp2_with fail
                go_quiet (fail)
                go_wp2
                go_roundw
                case rel => exact ⟨j + 1, _, by omega, by go_num, by rw [HT.out, if_neg HX.out], rfl⟩
                case measure => simp [intOf]; omega
            · have : j = 22 := by omega
              subst this
              have hT := dTo_end c hc
              generalize dTo c 22 = e0 at hT ⊢
              have hdl := dvN_le c
              by_cases hd : dvN c < 10
              · rw [if_neg (by omega)] at hT
                have HS := HST.out hd
                subst hT
                generalize dvN c = d at hd hdl HS ⊢
                have HS' := Lib.hid HS
                clear HS
                by_cases hbig : 4294967296 ≤ n * 10 + d
                · go_wp2
                  go_roundw
                  case rel => exact ⟨k + 1, 4294967296, q, by omega, by omega, by go_num, rfl, rfl, by omega, Lib.hid (by rw [HI.out, HS'.out, Nat.min_eq_right hbig]), rfl⟩
                  case measure => simp [intOf]; omega
                · go_wp2
                  go_roundw
                  case rel => exact ⟨k + 1, n * 10 + d, q, by omega, by omega, by go_num, by go_num, by rw [decide_eq_false (by omega), decide_eq_false (by omega)], by omega, Lib.hid (by rw [HI.out, HS'.out, Nat.min_eq_left (by omega)]), rfl⟩
                  case measure => simp [intOf]; omega
              · have hno := HNO.out hd
                rw [← HI.out] at hno
                have he : 10 ≤ e0 := by split at hT <;> omega
                have hfin := numR_none' 10 _ (drop_ne s 0 (by omega)) hno
                have HF := Lib.hid hfin
                clear hT hno hfin hd hdl
                go_wp2
                go_ret2
                exact ⟨by show _ = Ending.returned (resN (numR 10 (List.drop 0 s.data.toList))); rw [HF.out]; rfl, q, rfl⟩
        · have : k = s.size := by omega
          subst this
          have hI := HI.out
          rw [nrun_end] at hI
          by_cases h0 : s.size = 0
          · have hfin := numR_drop_nil 10 s 0 h0
            have e0 : ((0 : Int) == (s.size : Int)) = true := by simp; omega
            have HF := Lib.hid hfin
            clear hfin hI HI h0
            go_wp2
            go_ret2
            exact ⟨by show _ = Ending.returned (resN (numR 10 (List.drop 0 s.data.toList))); rw [HF.out]; rfl, m, rfl⟩
          · have hfin := numR_some' 10 _ n (drop_ne s 0 (by omega)) hI
            have e0 : ((0 : Int) == (s.size : Int)) = false := by simp; omega
            by_cases hl : 4294967296 ≤ n
            · rw [if_pos (by omega)] at hfin
              have HF := Lib.hid hfin
              clear hfin hI HI
              go_wp2
              go_ret2
              exact ⟨by show _ = Ending.returned (resN (numR 10 (List.drop 0 s.data.toList))); rw [HF.out]; rfl, m, rfl⟩
            · rw [if_neg (by omega)] at hfin
              have HF := Lib.hid hfin
              clear hfin hI HI
              go_wp2
              go_ret2
              exact ⟨by show _ = Ending.returned (resN (numR 10 (List.drop 0 s.data.toList))); rw [HF.out]; rfl, m, rfl⟩
    · have hsz3 := hsz2 rfl
      clear hsz2
      go_wp2
      go_loopw [6, 7, 9] (fun vn vl vi wr => ∃ k n m : Nat, 2 ≤ k ∧ k ≤ s.size ∧ vi = .int .i64 k ∧ vn = .int .u64 n ∧ vl = .bool (decide (4294967296 ≤ n)) ∧ n ≤ 4294967296 ∧ Hid (nrun 16 (s.data.toList.drop 2) 0 = nrun 16 (s.data.toList.drop k) n) ∧ wr = w.drewN m) (fun _ _ vi _ => s.size - (intOf vi).toNat)
      case atStart => exact ⟨2, 0, 0, by omega, by omega, rfl, rfl, rfl, by omega, Lib.hid rfl, rfl⟩
      case round =>
        obtain ⟨k, n, m, hk0, hk, rfl, rfl, rfl, hn, HI, rfl⟩ := hrel
        by_cases hlt : k < s.size
        · have hsx := idx_s s k hlt
          have hc := s[k].toNat_lt
          have hst := nrun_step 16 s k n hlt
          have hno := nrun_none 16 s k n hlt
          generalize s[k].toNat = c at hsx hc hst hno
          have HST := Lib.hid hst; have HNO := Lib.hid hno
          clear hst hno
          go_wp2_with fail
          go_loopw [10, 11] (fun vd vj wr => ∃ j q : Nat, j ≤ 22 ∧ vj = .int .i64 j ∧ vd = .int .u64 ((dTo c j : Nat) : Int) ∧ wr = w.drewN q) (fun _ vj _ => 22 - (intOf vj).toNat)
          case atStart => exact ⟨0, m, by omega, rfl, rfl, rfl⟩
          case round =>
            obtain ⟨j, q, hj, rfl, rfl, rfl⟩ := hrel
            by_cases hj22 : j < 22
            · have hix := idx_dl j hj22
              have hT : dTo c (j + 1) = if dlN j = c then (if 15 < j then j - 6 else j) else dTo c j := rfl
              generalize dTo c j = e0 at hT ⊢
              generalize dlN j = x at hix hT
              have HT := Lib.hid hT
              clear hT
              by_cases hxc : x = c
              · have e1 : ((x : Int) == (c : Int)) = true := by simp [hxc]
                have HX := Lib.hid hxc
                clear hxc
                by_cases h15 : 15 < j
                · go_wp2_with fail
                  go_quiet (fail)
                  go_wp2
                  go_roundw
                  case rel => exact ⟨j + 1, _, by omega, by go_num, by rw [HT.out, if_pos HX.out, if_pos h15]; go_num, rfl⟩
                  case measure => simp [intOf]; omega
                · go_wp2_with fail
                  go_quiet (fail)
                  go_wp2
                  go_roundw
                  case rel => exact ⟨j + 1, _, by omega, by go_num, by rw [HT.out, if_pos HX.out, if_neg h15], rfl⟩
                  case measure => simp [intOf]; omega
              · have e1 : ((x : Int) == (c : Int)) = false := by simp; omega
                have HX : Hid (¬ x = c) := Lib.hid hxc
                clear hxc
                go_wp2_with fail
                go_quiet (fail)
                go_wp2
                go_roundw
                case rel => exact ⟨j + 1, _, by omega, by go_num, by rw [HT.out, if_neg HX.out], rfl⟩
                case measure => simp [intOf]; omega
            · have : j = 22 := by omega
              subst this
              have hT := dTo_end c hc
              generalize dTo c 22 = e0 at hT ⊢
              have hdl := dvN_le c
              by_cases hd : dvN c < 16
              · rw [if_neg (by omega)] at hT
                have HS := HST.out hd
                subst hT
                generalize dvN c = d at hd hdl HS ⊢
                have HS' := Lib.hid HS
                clear HS
                by_cases hbig : 4294967296 ≤ n * 16 + d
                · go_wp2
                  go_roundw
                  case rel => exact ⟨k + 1, 4294967296, q, by omega, by omega, by go_num, rfl, rfl, by omega, Lib.hid (by rw [HI.out, HS'.out, Nat.min_eq_right hbig]), rfl⟩
                  case measure => simp [intOf]; omega
                · go_wp2
                  go_roundw
                  case rel => exact ⟨k + 1, n * 16 + d, q, by omega, by omega, by go_num, by go_num, by rw [decide_eq_false (by omega), decide_eq_false (by omega)], by omega, Lib.hid (by rw [HI.out, HS'.out, Nat.min_eq_left (by omega)]), rfl⟩
                  case measure => simp [intOf]; omega
              · have hno := HNO.out hd
                rw [← HI.out] at hno
                have he : 16 ≤ e0 := by split at hT <;> omega
                have hfin := numR_none' 16 _ (drop_ne s 2 (by omega)) hno
                have HF := Lib.hid hfin
                clear hT hno hfin hd hdl
                go_wp2
                go_ret2
                exact ⟨by show _ = Ending.returned (resN (numR 16 (List.drop 2 s.data.toList))); rw [HF.out]; rfl, q, rfl⟩
        · have : k = s.size := by omega
          subst this
          have hI := HI.out
          rw [nrun_end] at hI
          by_cases h0 : s.size = 2
          · have hfin := numR_drop_nil 16 s 2 h0
            have e0 : ((2 : Int) == (s.size : Int)) = true := by simp; omega
            have HF := Lib.hid hfin
            clear hfin hI HI h0
            go_wp2
            go_ret2
            exact ⟨by show _ = Ending.returned (resN (numR 16 (List.drop 2 s.data.toList))); rw [HF.out]; rfl, m, rfl⟩
          · have hfin := numR_some' 16 _ n (drop_ne s 2 (by omega)) hI
            have e0 : ((2 : Int) == (s.size : Int)) = false := by simp; omega
            by_cases hl : 4294967296 ≤ n
            · rw [if_pos (by omega)] at hfin
              have HF := Lib.hid hfin
              clear hfin hI HI
              go_wp2
              go_ret2
              exact ⟨by show _ = Ending.returned (resN (numR 16 (List.drop 2 s.data.toList))); rw [HF.out]; rfl, m, rfl⟩
            · rw [if_neg (by omega)] at hfin
              have HF := Lib.hid hfin
              clear hfin hI HI
              go_wp2
              go_ret2
              exact ⟨by show _ = Ending.returned (resN (numR 16 (List.drop 2 s.data.toList))); rw [HF.out]; rfl, m, rfl⟩
theorem pre_eq (s : ByteArray) : Lib.hasPrefix s.data.toList [48, 120] = preB s := by
  have hz : s.data.toList.length = s.size := by simp
  unfold Lib.hasPrefix preB byteN
  rw [← hz]
  match s.data.toList with
  | [] => rfl
  | [a] => simp [List.isPrefixOf]
  | a :: b :: l =>
    have h8 : ∀ x y : UInt8, (x == y) = decide (y.toNat = x.toNat) := fun x y => by
      rw [Bool.eq_iff_iff, beq_iff_eq, decide_eq_true_iff]
      exact ⟨fun h => by rw [h], fun h => (UInt8.toNat_inj.1 h).symm⟩
    simp [List.isPrefixOf, h8]
end Go.Proofs.YtokfmclbninkmaaGreatDoor.Num
/- DERIVED. What a function of the reference's parser hands back; node, and expr. By an AI agent. -/
namespace Go.Proofs.YtokfmclbninkmaaGreatDoor.Pq
open Go Go.ChangeShapes Go.WideShapes Go.ChangeAt Go.RowKit Lx Args Pa
set_option linter.unusedVariables false
set_option linter.unusedSimpArgs false
attribute [local go_sem] fTk0 fTk1 fTk2
/-- A node; a tree and what is left, or what was wrong. R: what is read. -/
def OutQ (w : World) (bp : Nat) (l : List Tk) (R : Out → Prop) (e : Ending) (w' : World) : Prop :=
  ∃ k a s n A la cA B lb cB, e = .returned (.agg #[.int .i64 (k : Nat), .string ⟨(s : Bs).toArray⟩, .int .u32 (n : Nat), .int .i64 (a : Nat), .slice A la cA, .slice B lb cB]) ∧ UB bp w w' ∧
    ((∃ x r, TIn (fun b => w.heap.size ≤ b) w' x (ndC k a s n A la cA B lb cB) ∧ R (.ok [x] r) ∧ QS w' bp r 0 0 ∧ Gt r ∧ r.length < l.length) ∨ (∃ ba er t r, er ≠ 0 ∧ R (.bad ba er) ∧ QS w' bp (t :: r) ba er))
theorem OutQ.imp {w : World} {bp : Nat} {l : List Tk} {R R' : Out → Prop} {e : Ending} {w' : World} (h : OutQ w bp l R e w') (hR : ∀ o, R o → R' o) : OutQ w bp l R' e w' := by
  obtain ⟨k, a, s, n, A, la, cA, B, lb, cB, h1, h2, h3⟩ := h
  refine ⟨k, a, s, n, A, la, cA, B, lb, cB, h1, h2, ?_⟩
  rcases h3 with ⟨x, r, g1, g2, g3⟩ | ⟨ba, er, t, r, g1, g2, g3⟩
  · exact .inl ⟨x, r, g1, hR _ g2, g3⟩
  · exact .inr ⟨ba, er, t, r, g1, hR _ g2, g3⟩
theorem tup {lo lo' : Nat} {w : World} {x : Tr} {c : List Value} (h : TIn (fun b => lo ≤ b) w x c) (hl : lo' ≤ lo) : TIn (fun b => lo' ≤ b) w x c := h.mono fun b hb _ => Nat.le_trans hl hb
theorem tfar {X : Nat → Prop} {lo : Nat} {w w' : World} {x : Tr} {c : List Value} (h : TIn (fun b => lo ≤ b) w x c) (hu : Upd X w w') (hX : ∀ b, X b → b < lo) : TIn (fun b => lo ≤ b) w' x c := h.upd hu fun b hb hx => by have := hX b hx; omega
/-- The result's box is full. -/
theorem q_ok {w w1 : World} {bp lo : Nat} {l r : List Tk} {R : Out → Prop} {k a n la cA lb cB : Nat} {s : Bs} {A B : Option Addr} {x : Tr} (hlt : bp < w.heap.size) (hg : w.heap.size < lo) (hT : TIn (fun b => lo ≤ b) w1 x (ndC k a s n A la cA B lb cB)) (hR : R (.ok [x] r)) (hP : QS w1 bp r 0 0) (hG : Gt r) (hr : r.length < l.length) (hU : UB bp w w1) :
    OutQ w bp l R (.returned (.agg #[.int .i64 (k : Int), .string ⟨s.toArray⟩, .int .u32 (n : Int), .int .i64 (a : Int), .slice A la cA, .slice B lb cB])) (put6 w1 w.heap.size (.int .i64 (k : Int)) (.string ⟨s.toArray⟩) (.int .u32 (n : Int)) (.int .i64 (a : Int)) (.slice A la cA) (.slice B lb cB)) := by
  have hu : Upd (fun b => b = w.heap.size) w1 (put6 w1 w.heap.size (.int .i64 (k : Int)) (.string ⟨s.toArray⟩) (.int .u32 (n : Int)) (.int .i64 (a : Int)) (.slice A la cA) (.slice B lb cB)) := put6_upd (X := fun b => b = w.heap.size) (Upd.refl _ _) (fun _ => rfl) _ _ _ _ _ _
  refine ⟨k, a, s, n, A, la, cA, B, lb, cB, rfl, put6_upd hU (fun h => absurd h (Nat.lt_irrefl _)) _ _ _ _ _ _, .inl ⟨x, r, ?_, hR, hP.far hu fun b hb => by omega, hG, hr⟩⟩
  exact tup (tfar hT hu fun b hb => by omega) (Nat.le_of_lt hg)
theorem q_bad {w w1 : World} {bp ba er : Nat} {l r : List Tk} {t : Tk} {R : Out → Prop} (k a n la cA lb cB : Nat) (s : Bs) (A B : Option Addr) (hlt : bp < w.heap.size) (he : er ≠ 0) (hR : R (.bad ba er)) (hP : QS w1 bp (t :: r) ba er) (hU : UB bp w w1) :
    OutQ w bp l R (.returned (.agg #[.int .i64 (k : Int), .string ⟨s.toArray⟩, .int .u32 (n : Int), .int .i64 (a : Int), .slice A la cA, .slice B lb cB])) (put6 w1 w.heap.size (.int .i64 (k : Int)) (.string ⟨s.toArray⟩) (.int .u32 (n : Int)) (.int .i64 (a : Int)) (.slice A la cA) (.slice B lb cB)) := by
  have hu : Upd (fun b => b = w.heap.size) w1 (put6 w1 w.heap.size (.int .i64 (k : Int)) (.string ⟨s.toArray⟩) (.int .u32 (n : Int)) (.int .i64 (a : Int)) (.slice A la cA) (.slice B lb cB)) := put6_upd (X := fun b => b = w.heap.size) (Upd.refl _ _) (fun _ => rfl) _ _ _ _ _ _
  exact ⟨k, a, s, n, A, la, cA, B, lb, cB, rfl, put6_upd hU (fun h => absurd h (Nat.lt_irrefl _)) _ _ _ _ _ _, .inr ⟨ba, er, t, r, he, hR, hP.far hu fun b hb => by omega⟩⟩
abbrev zNd : Array Value := #[.int .i64 0, .string ⟨#[]⟩, .int .u32 0, .int .i64 0, .slice none 0 0, .slice none 0 0]
set_option maxRecDepth 100000 in
theorem node (w : World) (k a : Nat) (s : Bs) (A : Option Addr) (la cA : Nat) :
    Calls Tryz.prog 40 #[.int .i64 (k : Int), .int .i64 (a : Int), .string ⟨s.toArray⟩, .slice A la cA] w fun e w' =>
      e = .returned (.agg #[.int .i64 (k : Int), .string ⟨s.toArray⟩, .int .u32 0, .int .i64 (a : Int), .slice A la cA, .slice none 0 0]) ∧ Below w.heap.size w w' := by
  go_enter Tryz.func40, Tryz.ntmps40
  go_wp2_with fail
  refine bodyPost_ret (resNd rfl rfl (Blk.new _ _ _) rfl) rfl ⟨rfl, ?_⟩
  exact (Below.refl _ _).alloc (Nat.le_refl _) _
set_option maxRecDepth 100000 in
theorem level_dead (w : World) (bp ba wy d : Nat) (t : Tk) (r : List Tk) (hp : QS w bp (t :: r) ba wy) (hw : wy ≠ 0) :
    Calls Tryz.prog 55 #[.pointer (some ⟨bp, 0, none⟩), .int .i64 0, .int .i64 (d : Int)] w fun e w' => e = .returned (.agg zNd) ∧ Below w.heap.size w w' := by
  obtain ⟨b', o, c, n, hn, hl, hc, hm, ⟨c0, c1, c2, c3⟩, ⟨z0, z1, z2, z3⟩, f4, f5, f6⟩ := hp.head
  have hlt := hp.lt
  have hz : ((wy : Int) != 0) = true := by simp; omega
  have hz2 : ((wy : Int) == 0) = false := by simp; omega
  clear hn hp hw
  go_enter Tryz.func55, Tryz.ntmps55
  go_wp2_with fail
  first
    | refine bodyPost_ret (resNd rfl rfl (Blk.new _ _ _) rfl) rfl ⟨rfl, (Below.refl _ _).alloc (Nat.le_refl _) _⟩
    | refine bodyPost_ret (resNd rfl rfl (Blk.put6 (Blk.new _ _ _) _ _ _ _ _ _) rfl) rfl ⟨rfl, ?_⟩
end Go.Proofs.YtokfmclbninkmaaGreatDoor.Pq
/- DERIVED. The reference parser's expr; unary, with a sign, and too deep. By an AI agent. -/
namespace Go.Proofs.YtokfmclbninkmaaGreatDoor.Pq
open Go Go.ChangeShapes Go.WideShapes Go.ChangeAt Go.RowKit Lx Args Pa
set_option linter.unusedVariables false
set_option linter.unusedSimpArgs false
attribute [local go_sem] fTk0 fTk1 fTk2
theorem zero_box (w : World) : ∃ w0, w.alloc (.cells zNd 26) = w0 ∧ Below w.heap.size w w0 ∧ Blk w0 w.heap.size 26 zNd :=
  ⟨_, rfl, (Below.refl _ _).alloc (Nat.le_refl _) _, Blk.new _ _ _⟩
set_option maxRecDepth 100000 in
set_option maxHeartbeats 2000000 in
theorem ex_dead (w : World) (bp ba wy d : Nat) (t : Tk) (r : List Tk) (hp : QS w bp (t :: r) ba wy) (hw : wy ≠ 0) :
    Calls Tryz.prog 30 #[.pointer (some ⟨bp, 0, none⟩), .int .i64 (d : Int)] w fun e w' => e = .returned (.agg zNd) ∧ Below w.heap.size w w' := by
  obtain ⟨w0, hw0, hb0, hB⟩ := zero_box w
  have hlt := hp.lt
  have HBD := Lib.hid fun b : Bool => bad_no w0 bp ba wy 150 b t r (hp.below hb0) (.inr hw)
  have HL := Lib.hid (level_dead w0 bp ba wy d t r (hp.below hb0) hw)
  have HB0 := Lib.hid hb0; have HB := Lib.hid hB; have HW := Lib.hid hw0
  clear hb0 hB hp hw0 hw
  go_enter Tryz.func30, Tryz.ntmps30
  go_wp2_with fail
  rw [HW.out]
  refine (HBD.out _).mono ?_
  rintro e w' ⟨rfl, rfl⟩
  go_wp2_with fail
  refine HL.out.mono ?_
  rintro e w1 ⟨rfl, hb1⟩
  have h1 := HB.out.below hb1 HB.out.lt
  obtain ⟨⟨e0, e1, e2, e3, e4, e5⟩, z0, z1, z2, z3, z4, z5⟩ := Blk.c6 h1
  have H1 := Lib.hid h1; have HB1 := Lib.hid (HB0.out.trans (hb1.mono HB0.out.size))
  clear h1 hb1
  go_wp2_with fail
  refine bodyPost_ret (resNd rfl rfl (Blk.put6 H1.out _ _ _ _ _ _) rfl) rfl ⟨rfl, ?_⟩
  exact (((((HB1.out.setCell (Nat.le_refl _) _).setCell (Nat.le_refl _) _).setCell (Nat.le_refl _) _).setCell (Nat.le_refl _) _).setCell (Nat.le_refl _) _).setCell (Nat.le_refl _) _
set_option maxRecDepth 100000 in
set_option maxHeartbeats 2000000 in
theorem ex_deep (w : World) (bp d : Nat) (t : Tk) (r : List Tk) (hp : QS w bp (t :: r) 0 0) (hd : 60 < d) :
    Calls Tryz.prog 30 #[.pointer (some ⟨bp, 0, none⟩), .int .i64 (d : Int)] w (OutQ w bp (t :: r) (Rd numV (.lev 0) d (t :: r))) := by
  obtain ⟨w0, hw0, hb0, hB⟩ := zero_box w
  have hlt := hp.lt
  have hR : Rd numV (.lev 0) d (t :: r) (.bad t.at_ 150) := r_deep0 hd
  have HBD := Lib.hid (bad_yes w0 bp 150 t r (hp.below hb0))
  have HB0 := Lib.hid hb0; have HB := Lib.hid hB; have HW := Lib.hid hw0; have HR := Lib.hid hR
  have hdi : (60 : Int) < (d : Int) := by omega
  have hbl := hB.lt
  clear hb0 hB hp hw0 hR
  go_enter Tryz.func30, Tryz.ntmps30
  go_wp2_with fail
  rw [HW.out]
  refine HBD.out.mono ?_
  rintro e w1 ⟨rfl, hp1, hu1⟩
  have HL := Lib.hid (level_dead w1 bp t.at_ 150 d t r hp1 (by decide))
  have HX1 := Lib.hid (HB.out.upd hu1 (by omega)); have HU1 := Lib.hid ((below_UB HB0.out).trans hu1); have HP1 := Lib.hid hp1
  clear hp1 hu1
  go_wp2_with fail
  refine HL.out.mono ?_
  rintro e w2 ⟨rfl, hb2⟩
  have h1 := HX1.out.below hb2 HX1.out.lt
  obtain ⟨⟨e0, e1, e2, e3, e4, e5⟩, z0, z1, z2, z3, z4, z5⟩ := Blk.c6 h1
  have H1 := Lib.hid h1; have HU2 := Lib.hid (HU1.out.trans (below_UB hb2)); have HP2 := Lib.hid (HP1.out.below hb2)
  clear h1 hb2
  go_wp2_with fail
  refine bodyPost_ret (resNd rfl rfl (Blk.put6 H1.out _ _ _ _ _ _) rfl) rfl ?_
  exact q_bad 0 0 0 0 0 0 0 [] none none hlt (by decide) HR.out HP2.out HU2.out
/-- What a call handed back, stored as the result. -/
theorem q_pass {w w0 w1 : World} {bp : Nat} {l : List Tk} {R : Out → Prop} {k a n la cA lb cB : Nat} {s : Bs} {A B : Option Addr} (hlt : bp < w.heap.size) (hg : w.heap.size < w0.heap.size) (hU : UB bp w w1)
    (h : (∃ x r, TIn (fun b => w0.heap.size ≤ b) w1 x (ndC k a s n A la cA B lb cB) ∧ R (.ok [x] r) ∧ QS w1 bp r 0 0 ∧ Gt r ∧ r.length < l.length) ∨ (∃ ba er t r, er ≠ 0 ∧ R (.bad ba er) ∧ QS w1 bp (t :: r) ba er)) :
    OutQ w bp l R (.returned (.agg #[.int .i64 (k : Int), .string ⟨s.toArray⟩, .int .u32 (n : Int), .int .i64 (a : Int), .slice A la cA, .slice B lb cB])) (put6 w1 w.heap.size (.int .i64 (k : Int)) (.string ⟨s.toArray⟩) (.int .u32 (n : Int)) (.int .i64 (a : Int)) (.slice A la cA) (.slice B lb cB)) := by
  rcases h with ⟨x, r, hT, hR, hP, hG, hr⟩ | ⟨ba, er, t, r, he, hR, hP⟩
  · exact q_ok hlt hg hT hR hP hG hr hU
  · exact q_bad _ _ _ _ _ _ _ _ _ _ hlt he hR hP hU
set_option maxRecDepth 100000 in
set_option maxHeartbeats 2000000 in
theorem ex_at (w : World) (bp d : Nat) (t : Tk) (r : List Tk) (hp : QS w bp (t :: r) 0 0) (hd : d ≤ 60)
    (HL : ∀ w0, QS w0 bp (t :: r) 0 0 → Calls Tryz.prog 55 #[.pointer (some ⟨bp, 0, none⟩), .int .i64 0, .int .i64 (d : Int)] w0 (OutQ w0 bp (t :: r) (Rd numV (.lev 0) d (t :: r)))) :
    Calls Tryz.prog 30 #[.pointer (some ⟨bp, 0, none⟩), .int .i64 (d : Int)] w (OutQ w bp (t :: r) (Rd numV (.lev 0) d (t :: r))) := by
  obtain ⟨w0, hw0, hb0, hB⟩ := zero_box w
  have hlt := hp.lt
  have HBD := Lib.hid (bad_no w0 bp 0 0 150 false t r (hp.below hb0) (.inl rfl))
  have HLL := Lib.hid (HL w0 (hp.below hb0))
  have HB0 := Lib.hid hb0; have HB := Lib.hid hB; have HW := Lib.hid hw0
  have hdi : ¬ (60 : Int) < (d : Int) := by omega
  have hbl := hB.lt
  clear hb0 hB hp hw0 HL
  go_enter Tryz.func30, Tryz.ntmps30
  go_wp2_with fail
  rw [HW.out]
  refine HBD.out.mono ?_
  rintro e w' ⟨rfl, rfl⟩
  go_wp2_with fail
  refine HLL.out.mono ?_
  rintro e w1 ⟨k, a, s, n, A, la, cA, B, lb, cB, rfl, hU, hO⟩
  have h1 := HB.out.upd hU (by omega)
  obtain ⟨⟨e0, e1, e2, e3, e4, e5⟩, z0, z1, z2, z3, z4, z5⟩ := Blk.c6 h1
  have H1 := Lib.hid h1; have HU1 := Lib.hid ((below_UB HB0.out).trans hU); have HO := Lib.hid hO
  clear h1 hU hO
  go_wp2_with fail
  refine bodyPost_ret (resNd rfl rfl (Blk.put6 H1.out _ _ _ _ _ _) rfl) rfl ?_
  exact q_pass hlt HB.out.lt HU1.out HO.out
/-- unary, of at most n tokens. -/
def UnC (n : Nat) : Prop := ∀ (w : World) (bp d : Nat) (l : List Tk), l.length ≤ n → QS w bp l 0 0 → Gt l →
  Calls Tryz.prog 76 #[.pointer (some ⟨bp, 0, none⟩), .int .i64 (d : Int)] w (OutQ w bp l (Rd numV (.lev 5) d l))
/-- expr, of at most n tokens. -/
def ExQ (n : Nat) : Prop := ∀ (w : World) (bp d : Nat) (l : List Tk), l.length ≤ n → QS w bp l 0 0 → Gt l →
  Calls Tryz.prog 30 #[.pointer (some ⟨bp, 0, none⟩), .int .i64 (d : Int)] w (OutQ w bp l (Rd numV (.lev 0) d l))
end Go.Proofs.YtokfmclbninkmaaGreatDoor.Pq
