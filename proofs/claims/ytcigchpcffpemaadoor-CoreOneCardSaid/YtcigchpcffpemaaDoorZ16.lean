/- DERIVED. ThSame, ThReads in one text. By an AI agent. -/
import Derived.Test.YtcigchpcffpemaaDoorZ03
import Derived.Test.YtcigchpcffpemaaDoorZ04
import Derived.Test.YtcigchpcffpemaaDoorZ05
import Derived.Deep.DeepCutAuto
import Derived.Deep.AppendLies
/- DERIVED. The contract of the reference's Same: whether two lists of numbers are one. By an AI agent. -/
namespace Go.Proofs.YtcigchpcffpemaaDoor.ThRef
open Go.ChangeShapes Go.WideShapes Go.ChangeAt Go.RowKit
set_option linter.unusedVariables false
/-- A slice's address leads to these numbers (no address is wanted of none). -/
def Reads64 (w : World) (p : Option Addr) (xs : List Int) : Prop := xs = [] ∨ ∃ g o, p = some ⟨g, o, none⟩ ∧ ∀ i, i < xs.length → w.cell? ⟨g, o + i, none⟩ = some (.int .i64 (xs[i]?.getD 0))
end Go.Proofs.YtcigchpcffpemaaDoor.ThRef
/- DERIVED. The contract of the reference's Reads. By an AI agent. -/
namespace Go.Proofs.YtcigchpcffpemaaDoor.ThRef
open Go.ChangeShapes Go.WideShapes Go.ChangeAt Go.RowKit
set_option linter.unusedVariables false
def rD (op imm : Int) : Bool := (decide (1 ≤ op) && decide (op ≤ 3)) || decide (op = 13) || decide (op = 15) || (decide (op = 11) && decide (imm ≠ 9) && decide (imm ≠ 15))
def rN (op : Int) : Bool := (decide (7 ≤ op) && decide (op ≤ 10)) || (decide (12 ≤ op) && decide (op ≤ 15))
def rM (op : Int) : Bool := (decide (4 ≤ op) && decide (op ≤ 8)) || decide (op = 11) || decide (op = 14) || decide (op = 15)
theorem can_d7 (op d n m imm : Int) (h : canB op d n m imm = true) (h18 : op ≠ 18) : d ≤ 7 := by
  have ho := can_op op d n m imm h
  obtain ⟨k, rfl⟩ := Int.eq_ofNat_of_zero_le ho.1
  have hl : ∀ i : Fin 21, i.val ≠ 18 → hasB (shapeN i.val) 99 = false := by decide +kernel
  have hlk := hl ⟨k, by omega⟩ (by intro e; apply h18; simp only at e; omega)
  unfold canB dB at h
  simp only [Int.toNat_natCast, Bool.and_eq_true, decide_eq_true_eq] at h
  have hd := h.1.2
  simp only at hlk
  rw [hlk] at hd
  simp at hd
  exact hd.2
/-- What the walk knows: the instruction's cells, the eight truths, that nothing that was there has turned. -/
structure St (op d n m imm : Int) (w wx : World) (f : Nat → Bool) : Prop where
  c0 : wx.cell? ⟨w.heap.size, 0, none⟩ = some (.int .i64 op)
  c1 : wx.cell? ⟨w.heap.size, 1, none⟩ = some (.int .i64 d)
  c2 : wx.cell? ⟨w.heap.size, 2, none⟩ = some (.int .i64 n)
  c3 : wx.cell? ⟨w.heap.size, 3, none⟩ = some (.int .i64 m)
  c4 : wx.cell? ⟨w.heap.size, 4, none⟩ = some (.int .i64 imm)
  b : ∀ r, r < 8 → wx.cell? ⟨w.heap.size + 1 + 1, r, none⟩ = some (.bool (f r))
  fr : ∀ r, wx.frozen? ⟨w.heap.size + 1 + 1, r, none⟩ = false
  below : Below w.heap.size w wx
  size : w.heap.size + 1 + 1 < wx.heap.size
  out : wx.heap[w.heap.size + 1]? = some (.cells #[] 3 (0, 0))
theorem St.set {op d n m imm : Int} {w wx : World} {f : Nat → Bool} (h : St op d n m imm w wx f) (D : Nat) (hD : D < 8) :
    St op d n m imm w (wx.setCell ⟨w.heap.size + 1 + 1, D, none⟩ (.bool true)) (fun r => f r || decide (r = D)) where
  c0 := by rw [World.cell?_setCell_other _ _ _ _ (by intro e; have := congrArg Addr.block e; simp at this; omega)]; exact h.c0
  c1 := by rw [World.cell?_setCell_other _ _ _ _ (by intro e; have := congrArg Addr.block e; simp at this; omega)]; exact h.c1
  c2 := by rw [World.cell?_setCell_other _ _ _ _ (by intro e; have := congrArg Addr.block e; simp at this; omega)]; exact h.c2
  c3 := by rw [World.cell?_setCell_other _ _ _ _ (by intro e; have := congrArg Addr.block e; simp at this; omega)]; exact h.c3
  c4 := by rw [World.cell?_setCell_other _ _ _ _ (by intro e; have := congrArg Addr.block e; simp at this; omega)]; exact h.c4
  b := fun r hr => by
    by_cases e : r = D
    · subst e
      rw [World.cell?_setCell_same _ _ _ (h.b r hr)]
      simp
    · rw [World.cell?_setCell_other _ _ _ _ (by intro e2; have := congrArg Addr.off e2; simp at this; omega), h.b r hr]
      simp [e]
  fr := fun r => by rw [World.frozen?_setCell]; exact h.fr r
  below := h.below.setCell (by show w.heap.size ≤ w.heap.size + 1 + 1; omega) _
  size := by simpa [World.setCell] using h.size
  out := by rw [Below.heap_setCell _ _ _ _ (by show w.heap.size + 1 ≠ w.heap.size + 1 + 1; omega)]; exact h.out
theorem infoI : (Tryd.prog.info? 3).map (fun i => (i.zero, i.size, i.bytes)) = some (some (.int .i64 0), 1, 8) := by kernel_rfl
def ivals (l : List Int) : List Value := l.map (Value.int .i64)
/-- One number is appended to a row of the call's own. -/
theorem app_int {ops : Array Oper} {rest : List Oper} {o : Oper} {a : Act} {Q : Exit → Act → World → Prop} {w : World} (hgd : o.guard = none) (s x : Operand)
    (ho : o.op = .call { callee := .builtin .append, args := #[s, x], argTypes := #[61, 61] })
    (v : Value) (k : Nat) (xs : List Int) (hs : a.eval s = v) {base : Nat} (hown : w.ownsRow base 3 1 v k (ivals xs)) (hB : base ≤ w.heap.size) (b : Int)
    (hx : a.eval x = .slice (some ⟨w.heap.size, 0, none⟩) 1 1) (hk : k < 1000)
    (h : ∀ g cap w', w'.ownsRow base 3 1 (.slice (some ⟨g, 0, none⟩) (k + 1) cap) (k + 1) (ivals (xs ++ [b])) → (w.alloc (.cells #[.int .i64 b] 3)).grownBy w' v.ownBlock → (v.ownBlock = some g ∨ g = w.heap.size + 1) →
      wpList Tryd.prog ops Q rest (a.put o.dst (.slice (some ⟨g, 0, none⟩) (k + 1) cap)) w') :
    wpList Tryd.prog ops Q (o :: rest) a (w.alloc (.cells #[.int .i64 b] 3)) := by
  obtain ⟨i0, hi, hz0, hz1, hz2⟩ := info_parts infoI
  refine wpList_append_lies _ hgd s x 61 ho base 3 i0 (.int .i64 0) 1 8 Tryd.underlying61 hi hz0 hz1 hz2 rfl (by decide) v k (ivals xs) hs (hown.alloc _) ⟨w.heap.size, 0, none⟩ 1 1 [.int .i64 b] hx rfl ?_ ?_ (by decide) (by unfold maxLen; omega) (by omega) (by simp; omega) (w.heap.size + 1) (by simp) ?_
  · intro j u hj
    match j, hj with
    | 0, hj =>
      simp at hj; subst hj
      show (w.alloc _).cell? ⟨w.heap.size, 0 + 0, none⟩ = _
      rw [World.cell?_alloc_at _ _ _ _ rfl]; rfl
    | j + 1, hj => simp at hj
  · intro u hu; simp at hu; subst hu; rfl
  · intro g cap w' h1 h2 h3 _
    exact h g cap w' (by simpa [ivals] using h1) h2 h3
/-- Which registers are read. -/
def msk (op d n m imm : Int) (r : Nat) : Bool := (rD op imm && decide ((r : Int) = d)) || (rN op && decide ((r : Int) = n)) || (rM op && decide ((r : Int) = m))
def fil (f : Nat → Bool) (k : Nat) : List Int := ((List.range k).filter f).map (fun r : Nat => (r : Int))
theorem fil_yes (f : Nat → Bool) (k : Nat) (h : f k = true) : fil f (k + 1) = fil f k ++ [(k : Int)] := by
  unfold fil; rw [List.range_succ, List.filter_append]; simp [h]
theorem fil_no (f : Nat → Bool) (k : Nat) (h : f k = false) : fil f (k + 1) = fil f k := by
  unfold fil; rw [List.range_succ, List.filter_append]; simp [h]
theorem fil_len (f : Nat → Bool) (k : Nat) : (fil f k).length ≤ k := by
  unfold fil; rw [List.length_map]; exact Nat.le_trans (List.length_filter_le _ _) (by simp)
def readsL (op d n m imm : Int) : List Int := if canB op d n m imm then fil (msk op d n m imm) 8 else []
set_option maxRecDepth 100000 in
set_option maxHeartbeats 40000000 in
theorem reads (op d n m imm : Int) (w : World) : Calls Tryd.prog 26 #[ins op d n m imm] w fun e w' => ∃ p cap, e = .returned (.slice p (readsL op d n m imm).length cap) ∧ Reads64 w' p (readsL op d n m imm) ∧ Below w.heap.size w w' := by
  have hrl : readsL op d n m imm = _ := rfl
  conv at hrl => rhs; unfold readsL
  have hc := can op d n m imm
  have ho := can_op op d n m imm
  have canb := can_bounds op d n m imm
  have cand := can_d7 op d n m imm
  generalize canB op d n m imm = cb at hc ho canb cand hrl
  have HC := Lib.hid hc; have HRL := Lib.hid hrl
  clear hc hrl
  cases cb
  · clear ho canb cand
    go_enter Tryd.func26, Tryd.ntmps26
    go_wp2_with fail
    refine (HC.out _).mono ?_; rintro e w1 ⟨rfl, hb1⟩
    go_wp2_with fail
    go_ret
    have hl : readsL op d n m imm = [] := HRL.out
    rw [hl]
    exact ⟨_, _, rfl, .inl rfl, ((((Below.refl _ _).alloc (Nat.le_refl _) _).alloc (by simp) _).alloc (by simp; omega) _).trans (hb1.mono (by simp; omega))⟩
  · have ho' := ho rfl
    clear ho
    have hr : op = 0 ∨ op = 1 ∨ op = 2 ∨ op = 3 ∨ op = 4 ∨ op = 5 ∨ op = 6 ∨ op = 7 ∨ op = 8 ∨ op = 9 ∨ op = 10 ∨ op = 11 ∨ op = 12 ∨ op = 13 ∨ op = 14 ∨ op = 15 ∨ op = 16 ∨ op = 17 ∨ op = 18 ∨ op = 19 ∨ op = 20 := by omega
    obtain ⟨⟨d0, d1⟩, ⟨n0, n1⟩, ⟨m0, m1⟩, _⟩ := canb rfl
    have cd := cand rfl
    clear cand canb
    obtain ⟨D0, rfl⟩ := Int.eq_ofNat_of_zero_le d0
    obtain ⟨N0, rfl⟩ := Int.eq_ofNat_of_zero_le n0
    obtain ⟨M0, rfl⟩ := Int.eq_ofNat_of_zero_le m0
    have CD := Lib.hid cd
    clear cd
    have HR := Lib.hid hr
    clear hr
    go_enter Tryd.func26, Tryd.ntmps26
    go_wp2_with fail
    refine (HC.out _).mono ?_; rintro e w1 ⟨rfl, hb1⟩
    have hst : St op D0 N0 M0 imm w w1 (fun _ => false) := by
      have hz := hb1.size
      simp at hz
      refine ⟨?_, ?_, ?_, ?_, ?_, fun r hr => ?_, fun r => ?_, ((((Below.refl _ _).alloc (Nat.le_refl _) _).alloc (by simp) _).alloc (by simp; omega) _).trans (hb1.mono (by simp; omega)), by omega, ?_⟩
      · rw [hb1.cell (p := ⟨w.heap.size, 0, none⟩) (by simp; omega), World.cell?_alloc_lt _ _ ⟨w.heap.size, 0, none⟩ (by simp; omega), World.cell?_alloc_lt _ _ ⟨w.heap.size, 0, none⟩ (by simp), World.cell?_alloc_at _ _ _ _ rfl]; rfl
      · rw [hb1.cell (p := ⟨w.heap.size, 1, none⟩) (by simp; omega), World.cell?_alloc_lt _ _ ⟨w.heap.size, 1, none⟩ (by simp; omega), World.cell?_alloc_lt _ _ ⟨w.heap.size, 1, none⟩ (by simp), World.cell?_alloc_at _ _ _ _ rfl]; rfl
      · rw [hb1.cell (p := ⟨w.heap.size, 2, none⟩) (by simp; omega), World.cell?_alloc_lt _ _ ⟨w.heap.size, 2, none⟩ (by simp; omega), World.cell?_alloc_lt _ _ ⟨w.heap.size, 2, none⟩ (by simp), World.cell?_alloc_at _ _ _ _ rfl]; rfl
      · rw [hb1.cell (p := ⟨w.heap.size, 3, none⟩) (by simp; omega), World.cell?_alloc_lt _ _ ⟨w.heap.size, 3, none⟩ (by simp; omega), World.cell?_alloc_lt _ _ ⟨w.heap.size, 3, none⟩ (by simp), World.cell?_alloc_at _ _ _ _ rfl]; rfl
      · rw [hb1.cell (p := ⟨w.heap.size, 4, none⟩) (by simp; omega), World.cell?_alloc_lt _ _ ⟨w.heap.size, 4, none⟩ (by simp; omega), World.cell?_alloc_lt _ _ ⟨w.heap.size, 4, none⟩ (by simp), World.cell?_alloc_at _ _ _ _ rfl]; rfl
      · rw [hb1.cell (p := ⟨_, _, _⟩) (by simp)]
        rw [World.cell?_alloc_at _ _ _ _ (by simp)]
        match r, hr with
        | 0, _ => rfl
        | 1, _ => rfl
        | 2, _ => rfl
        | 3, _ => rfl
        | 4, _ => rfl
        | 5, _ => rfl
        | 6, _ => rfl
        | 7, _ => rfl
      · rw [hb1.frozen (p := ⟨_, _, _⟩) (by simp), World.frozen?_alloc_at _ _ _ _ (by simp)]
      · rw [hb1.block (w.heap.size + 1) (by simp), Below.heap_alloc _ _ _ (by simp)]
        have h := heap_alloc_new (w.alloc (.cells #[.int .i64 op, .int .i64 D0, .int .i64 N0, .int .i64 M0, .int .i64 imm] 23)) (.cells #[] 3)
        rw [show (w.alloc (.cells #[.int .i64 op, .int .i64 D0, .int .i64 N0, .int .i64 M0, .int .i64 imm] 23)).heap.size = w.heap.size + 1 by simp] at h
        exact h
    have HS := Lib.hid hst
    have q0 := hst.c0; have q4 := hst.c4
    clear hst hb1
    go_upto_region 5 with fail
    go_cut [42] (fun v wx => v = .bool (rD op imm) ∧ w1 = wx)
    case first =>
      by_cases h11 : op = 11
      · subst h11
        by_cases i9 : imm = 9
        · subst i9
          go_wp2_with fail
          go_meet
          exact ⟨rfl, rfl⟩
        by_cases i15 : imm = 15
        · subst i15
          go_wp2_with fail
          go_meet
          exact ⟨rfl, rfl⟩
        have e1 : (imm != 9) = true := by simp [i9]
        have e2 : (imm != 15) = true := by simp [i15]
        have hs : rD 11 imm = true := by simp [rD, i9, i15]
        have HS2 := Lib.hid hs
        clear hs i9 i15
        go_wp2_with fail
        go_meet
        exact ⟨by rw [HS2.out], rfl⟩
      · have H11 : Hid (¬ op = 11) := Lib.hid h11
        clear h11
        rcases HR.out with rfl | rfl | rfl | rfl | rfl | rfl | rfl | rfl | rfl | rfl | rfl | rfl | rfl | rfl | rfl | rfl | rfl | rfl | rfl | rfl | rfl
        all_goals
          first
          | exact absurd rfl H11.out
          | (go_wp2_with fail
             go_meet
             exact ⟨rfl, rfl⟩)
    case rest =>
      obtain ⟨rfl, rfl⟩ := hcut
      go_upto_if 42 with fail
      go_cut [] (fun wx => St op D0 N0 M0 imm w wx (fun r => rD op imm && decide (r = D0)))
      case first =>
        have q1 := HS.out.c1
        by_cases hrd : rD op imm = true
        · have h8 : D0 < 8 := by have := CD.out (by intro e; subst e; simp [rD] at hrd); omega
          have b1 := HS.out.b D0 h8
          have f1 := HS.out.fr D0
          rw [hrd]
          have HRD := Lib.hid hrd
          clear hrd
          go_wp2_with fail
          go_meet
          rw [HRD.out]
          exact HS.out.set D0 h8
        · have hrd2 : rD op imm = false := by simpa using hrd
          rw [hrd2]
          have HRD := Lib.hid hrd2
          clear hrd hrd2
          go_wp2_with fail
          go_meet
          rw [HRD.out]
          exact HS.out
      case rest =>
        rename World => wx
        have HS2 := Lib.hid hcut
        clear hcut HS q0 q4
        go_upto_region 7 with fail
        go_cut [59] (fun v wy => v = .bool (rN op) ∧ wx = wy)
        case first =>
          rcases HR.out with rfl | rfl | rfl | rfl | rfl | rfl | rfl | rfl | rfl | rfl | rfl | rfl | rfl | rfl | rfl | rfl | rfl | rfl | rfl | rfl | rfl
          all_goals
            go_wp2_with fail
            go_meet
            exact ⟨rfl, rfl⟩
        case rest =>
          obtain ⟨rfl, rfl⟩ := hcut
          go_upto_if 59 with fail
          go_cut [] (fun wy => St op D0 N0 M0 imm w wy (fun r => (rD op imm && decide (r = D0)) || (rN op && decide (r = N0))))
          case first =>
            have q1 := HS2.out.c2
            have h8 : N0 < 8 := by omega
            by_cases hrd : rN op = true
            · have b1 := HS2.out.b N0 h8
              have f1 := HS2.out.fr N0
              rw [hrd]
              have HRD := Lib.hid hrd
              clear hrd
              go_wp2_with fail
              go_meet
              rw [HRD.out]
              exact HS2.out.set N0 h8
            · have hrd2 : rN op = false := by simpa using hrd
              rw [hrd2]
              have HRD := Lib.hid hrd2
              clear hrd hrd2
              go_wp2_with fail
              go_meet
              rw [HRD.out]
              simp only [Bool.false_and, Bool.or_false]
              exact HS2.out
          case rest =>
            rename World => wz
            have HS3 := Lib.hid hcut
            clear hcut HS2
            go_upto_region 9 with fail
            go_cut [80] (fun v wy => v = .bool (rM op) ∧ wz = wy)
            case first =>
              rcases HR.out with rfl | rfl | rfl | rfl | rfl | rfl | rfl | rfl | rfl | rfl | rfl | rfl | rfl | rfl | rfl | rfl | rfl | rfl | rfl | rfl | rfl
              all_goals
                go_wp2_with fail
                go_meet
                exact ⟨rfl, rfl⟩
            case rest =>
              obtain ⟨rfl, rfl⟩ := hcut
              go_upto_if 80 with fail
              go_cut [] (fun wy => St op D0 N0 M0 imm w wy (fun r => ((rD op imm && decide (r = D0)) || (rN op && decide (r = N0))) || (rM op && decide (r = M0))))
              case first =>
                have q1 := HS3.out.c3
                have h8 : M0 < 8 := by omega
                by_cases hrd : rM op = true
                · have b1 := HS3.out.b M0 h8
                  have f1 := HS3.out.fr M0
                  rw [hrd]
                  have HRD := Lib.hid hrd
                  clear hrd
                  go_wp2_with fail
                  go_meet
                  rw [HRD.out]
                  exact HS3.out.set M0 h8
                · have hrd2 : rM op = false := by simpa using hrd
                  rw [hrd2]
                  have HRD := Lib.hid hrd2
                  clear hrd hrd2
                  go_wp2_with fail
                  go_meet
                  rw [HRD.out]
                  simp only [Bool.false_and, Bool.or_false]
                  exact HS3.out
              case rest =>
                rename World => wl
                have hms : (fun r : Nat => ((rD op imm && decide (r = D0)) || (rN op && decide (r = N0))) || (rM op && decide (r = M0))) = msk op D0 N0 M0 imm := by
                  funext r; unfold msk; simp only [Int.natCast_inj]
                rw [hms] at hcut
                have hrl : readsL op D0 N0 M0 imm = fil (msk op D0 N0 M0 imm) 8 := HRL.out
                generalize msk op D0 N0 M0 imm = f at hcut hrl
                have HS4 := Lib.hid hcut; have HRL2 := Lib.hid hrl
                clear hcut hrl HS3 hms
                go_wp2_with fail
                go_loopw [4, 6] (fun v vi wr => ∃ (k g cap : Nat), k ≤ 8 ∧ vi = .int .i64 k ∧ v = .slice (some ⟨g, 0, none⟩) (fil f k).length cap ∧ g ≠ w.heap.size + 1 + 1 ∧ w.heap.size + 1 + 1 < wr.heap.size ∧
                  Hid (wr.ownsRow (w.heap.size + 1) 3 1 (.slice (some ⟨g, 0, none⟩) (fil f k).length cap) (fil f k).length (ivals (fil f k)) ∧ (∀ r, r < 8 → wr.cell? ⟨w.heap.size + 1 + 1, r, none⟩ = some (.bool (f r))) ∧ Below w.heap.size w wr)) (fun _ vi _ => 8 - (intOf vi).toNat)
                case atStart => exact ⟨0, w.heap.size + 1, 0, by omega, rfl, rfl, by omega, HS4.out.size, Lib.hid ⟨⟨rfl, .inr ⟨w.heap.size + 1, 0, #[], rfl, Nat.le_refl _, HS4.out.out, Nat.le_refl 0, by decide, rfl, rfl⟩⟩, HS4.out.b, HS4.out.below⟩⟩
                case round =>
                  obtain ⟨k, g, cap, hk, rfl, rfl, hg, hsz, HH⟩ := hrel
                  by_cases hlt : k < 8
                  · have qb := HH.out.2.1 k hlt
                    have hy := fil_yes f k
                    have hno := fil_no f k
                    have hlen := fil_len f k
                    generalize f k = b at qb hy hno
                    cases b
                    · have HN := Lib.hid (hno rfl)
                      clear hy hno
                      go_wp2
                      go_roundw
                      case rel => exact ⟨k + 1, g, cap, by omega, by go_num, by rw [HN.out], hg, hsz, Lib.hid (by rw [HN.out]; exact HH.out)⟩
                      case measure => simp [intOf]; omega
                    · have HY := Lib.hid (hy rfl)
                      clear hy hno
                      go_wp2_with (at_builtin; refine app_int rfl _ _ rfl (.slice (some ⟨g, 0, none⟩) (fil f k).length cap) (fil f k).length (fil f k) rfl HH.out.1 (by omega) (k : Int) rfl (by omega) ?_; intro g2 cap2 w' hown' hgrow' hat')
                      go_roundw
                      case rel =>
                        have hg1 := (HH.out.1.lt g rfl).1
                        have hgs := hgrow'.size
                        simp at hgs
                        have hg2 : g2 ≠ w.heap.size + 1 + 1 := by
                          rcases hat' with e | e
                          · have : g = g2 := Option.some.inj e
                            omega
                          · omega
                        have hcell : ∀ r, r < 8 → w'.cell? ⟨w.heap.size + 1 + 1, r, none⟩ = some (.bool (f r)) := fun r hr => by
                          rw [hgrow'.cell_far ⟨w.heap.size + 1 + 1, r, none⟩ (by simp; omega) (by intro e; have : w.heap.size + 1 + 1 = g := Option.some.inj e; omega), World.cell?_alloc_lt _ _ ⟨w.heap.size + 1 + 1, r, none⟩ hsz]
                          exact HH.out.2.1 r hr
                        have hbel : Below w.heap.size w w' := (HH.out.2.2.alloc (by omega) _).grown hgrow' (by simp; omega) (fun q hq => by have : g = q := Option.some.inj hq; omega)
                        have hl2 : (fil f (k + 1)).length = (fil f k).length + 1 := by rw [HY.out]; simp
                        exact ⟨k + 1, g2, cap2, by omega, by go_num, by rw [hl2], hg2, by omega, Lib.hid ⟨by rw [hl2, HY.out]; exact hown', hcell, hbel⟩⟩
                      case measure => simp [intOf]; omega
                  · have e8 : k = 8 := by omega
                    subst e8
                    go_wp2
                    go_ret
                    rw [HRL2.out]
                    refine ⟨some ⟨g, 0, none⟩, cap, rfl, .inr ⟨g, 0, rfl, fun i hi => ?_⟩, HH.out.2.2⟩
                    rw [Nat.zero_add, World.ownsRow.cellAt HH.out.1 i (by omega)]
                    simp [ivals, hi]
end Go.Proofs.YtcigchpcffpemaaDoor.ThRef
