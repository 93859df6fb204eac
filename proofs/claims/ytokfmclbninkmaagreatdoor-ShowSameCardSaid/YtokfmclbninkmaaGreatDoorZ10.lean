/- DERIVED. ShLi in one text. By an AI agent. -/
import Derived.Test.YtokfmclbninkmaaGreatDoorZ08
import Derived.Test.YtokfmclbninkmaaGreatDoorZ09
import Derived.Lib.ItoaLen
/- DERIVED. The writer's names, and expressions with commas between. By an AI agent. -/
namespace Go.Proofs.YtokfmclbninkmaaGreatDoor.Wr
open Go Go.ChangeShapes Go.WideShapes Go.ChangeAt Go.RowKit Lx Args Pa Sh
set_option linter.unusedVariables false
set_option linter.unusedSimpArgs false
mutual
/-- Texts are short, and numbers of 32 bits. -/
def okz : Tz → Prop
  | .mk _ _ s n ps l => s.length ≤ 1048576 ∧ (∀ p ∈ ps, p.length ≤ 1048576) ∧ n < 4294967296 ∧ okzs l
def okzs : List Tz → Prop
  | [] => True
  | x :: l => okz x ∧ okzs l
end
theorem okzs_at : ∀ {l : List Tz}, okzs l → ∀ {i : Nat} {x : Tz}, l[i]? = some x → okz x
  | [], _, i, x, h => by simp at h
  | y :: l, h, 0, x, hx => by
    have : y = x := by simpa using hx
    subst this
    unfold okzs at h
    exact h.1
  | y :: l, h, i + 1, x, hx => by
    unfold okzs at h
    exact okzs_at h.2 (by simpa using hx)
theorem lss_at : ∀ {l : List Tz}, lss l = true → ∀ {i : Nat} {x : Tz}, l[i]? = some x → ls x = true
  | [], _, i, x, h => by simp at h
  | y :: l, h, 0, x, hx => by
    have : y = x := by simpa using hx
    subst this
    unfold lss at h
    simp only [Bool.and_eq_true] at h
    exact h.1
  | y :: l, h, i + 1, x, hx => by
    unfold lss at h
    simp only [Bool.and_eq_true] at h
    exact lss_at h.2 (by simpa using hx)
theorem shEs_at : ∀ {l : List Tz}, shEs l → ∀ {i : Nat} {x : Tz}, l[i]? = some x → shE x
  | [], _, i, x, h => by simp at h
  | y :: l, h, 0, x, hx => by
    have : y = x := by simpa using hx
    subst this
    unfold shEs at h
    exact h.1
  | y :: l, h, i + 1, x, hx => by
    unfold shEs at h
    exact shEs_at h.2 (by simpa using hx)
abbrev dec : Nat → Bs := Lib.decDigits
theorem naT_cons (f : Bool) (p : Bs) (ps : List Bs) : naT f (p :: ps) = (if f = true then [] else [44, 32]) ++ p ++ naT false ps := rfl
theorem liT_cons (d : Nat → Bs) (bt : Bs) (op f : Bool) (x : Tz) (l : List Tz) : liT d bt op f (x :: l) = (if f = true then [] else bt) ++ opT d op x ++ liT d bt op false l := by
  conv => lhs; unfold liT
theorem low_trans {w0 w w' : World} {bp : Nat} (hb : Below w0.heap.size w0 w) (h0 : w0.heap.size ≤ bp) (hk : Kept bp w w') : Below w0.heap.size w0 w' := hb.trans (hk.low.mono h0)
theorem drop_at {α : Type} {l : List α} {i : Nat} {x : α} (h : l[i]? = some x) : l.drop i = x :: l.drop (i + 1) := by
  have hlt : i < l.length := by
    by_cases hh : i < l.length
    · exact hh
    · rw [List.getElem?_eq_none (by omega)] at h; cases h
  rw [List.drop_eq_getElem_cons hlt]
  congr 1
  rw [List.getElem?_eq_getElem hlt] at h
  exact Option.some.inj h
theorem partz_b {q : Prop} {w0 w : World} (hb : Below w0.heap.size w0 w) {l : List Tz} {css : List (List Value)} {A : Option Addr} (hL : Lies w0 A css.flatten) (hT : TsIc q w0 l css) {i : Nat} {y : Tz} (h : l[i]? = some y) :
    ∃ b o k a s n A' la cA B lb cB, A = some ⟨b, o, none⟩ ∧ TIc q w0 y (nzC k a s n A' la cA B lb cB) ∧ b < w0.heap.size ∧ w.cell? ⟨b, o + i * 6, none⟩ = some (.int .i64 k) ∧ w.cell? ⟨b, o + i * 6 + 1, none⟩ = some (.string ⟨s.toArray⟩) ∧
      w.cell? ⟨b, o + i * 6 + 2, none⟩ = some (.int .u32 (n : Int)) ∧ w.cell? ⟨b, o + i * 6 + 3, none⟩ = some (.int .i64 a) ∧ w.cell? ⟨b, o + i * 6 + 4, none⟩ = some (.slice A' la cA) ∧ w.cell? ⟨b, o + i * 6 + 5, none⟩ = some (.slice B lb cB) := by
  obtain ⟨b, o, k, a, s, n, A', la, cA, B, lb, cB, h1, h2, h3, e0, e1, e2, e3, e4, e5⟩ := partz_at hL hT h
  exact ⟨b, o, k, a, s, n, A', la, cA, B, lb, cB, h1, h2, h3, (hb.cell h3).trans e0, (hb.cell h3).trans e1, (hb.cell h3).trans e2, (hb.cell h3).trans e3, (hb.cell h3).trans e4, (hb.cell h3).trans e5⟩
set_option maxRecDepth 100000 in
set_option maxHeartbeats 1000000 in
theorem listS (w0 w : World) (bp gb : Nat) (A : Option Addr) (c : Nat) (ps : List Bs) (acc : Bs) (hL : Lies w0 A (ps.map strV)) (hl : ps.length ≤ maxLen) (hps : ∀ p ∈ ps, p.length ≤ 1048576) (hb : Below w0.heap.size w0 w) (h0 : w0.heap.size ≤ bp) (h : IsW bp acc w) (ha : acc.length ≤ 1068576)
    (hG : Blk w gb 41 #[.pointer (some ⟨bp, 0, none⟩)]) (hgb : gb ≠ bp) :
    Calls Tryz.prog 93 #[.pointer (some ⟨bp, 0, none⟩), .slice A ps.length c, .func (.func 94) #[] #[.pointer (some ⟨gb, 0, none⟩)]] w (WrP bp w acc True (naT true ps)) := by
  have hlm : ps.length ≤ 9223372036854775807 := hl
  have HL := Lib.hid hL; have HPS := Lib.hid hps; have HB := Lib.hid hb; have HI : Hid (IsW bp acc w) := Lib.hid h; have HG := Lib.hid hG
  clear hL hps hb h hG hl
  go_enter Tryz.func93, Tryz.ntmps93
  go_wp2_with fail
  go_loopw [10] (fun vi wr => ∃ (i : Nat) (ac : Bs), i ≤ ps.length ∧ vi = .int .i64 (i : Int) ∧ Hid (IsW bp ac wr) ∧ Hid (ac.length ≤ 1068576) ∧ Hid (Kept bp w wr) ∧ Hid (∀ r, Cut ac (naT (decide (i = 0)) (ps.drop i)) r → Cut acc (naT true ps) r)) (fun vi _ => ps.length - (intOf vi).toNat)
  case atStart => exact ⟨0, acc, by omega, rfl, HI, Lib.hid ha, Lib.hid (Kept.refl _ _), Lib.hid fun r hr => hr⟩
  case round =>
    obtain ⟨i, ac, hi, rfl, HW, HA, HK, HQ⟩ := hrel
    by_cases hlt : i < ps.length
    · obtain ⟨p, hp⟩ : ∃ p, ps[i]? = some p := ⟨_, List.getElem?_eq_getElem hlt⟩
      have f1 : (ps.map strV)[i]? = some (.string ⟨p.toArray⟩) := by rw [List.getElem?_map, hp]; rfl
      obtain ⟨b, o, rfl, _, hc1⟩ := (HL.out.below (low_trans HB.out h0 HK.out)).at_ f1
      have e1 := hc1 _ _ f1
      have HP := Lib.hid (HPS.out p (List.mem_of_getElem? hp))
      have hq := HQ.out
      rw [drop_at hp, naT_cons] at hq
      clear hc1 f1 hp HQ
      have HI1 := Lib.hid (show decide (i + 1 = 0) = false from decide_eq_false (by omega))
      by_cases hi0 : i = 0
      · have HQ2 : Hid (∀ r, Cut ac (p ++ naT false (ps.drop (i + 1))) r → Cut acc (naT true ps) r) := Lib.hid (by rw [decide_eq_true hi0] at hq; simpa using hq)
        have i1 : decide (0 < i) = false := by simp; omega
        clear hi0 hq
        have HS := Lib.hid (one wr bp gb p ac HW.out HA.out (HK.out.blk HG.out hgb neP) HP.out)
        go_wp2_with fail
        refine HS.out.mono ?_
        rintro e w2 ⟨rfl, r, h1, h2, h3, h4⟩
        have H1 := Lib.hid h1; have H2 := Lib.hid h2; have H3 := Lib.hid h3; have H4 := Lib.hid (HK.out.trans h4)
        clear h1 h2 h3 h4
        go_wp2_with fail
        go_roundw
        case rel => exact ⟨i + 1, r, by omega, by go_num, H1, H2, H4, Lib.hid fun r' hr => HQ2.out r' ((H3.out trivial).trans (by rw [HI1.out] at hr; exact hr))⟩
        case measure => simp [intOf]; omega
      · have i1 : decide (0 < i) = true := by simp; omega
        have HQ2 : Hid (∀ r, Cut ac ([44, 32] ++ (p ++ naT false (ps.drop (i + 1)))) r → Cut acc (naT true ps) r) := Lib.hid (by rw [decide_eq_false hi0] at hq; simpa using hq)
        have HPU := Lib.hid (putN wr bp [[44, 32]] ac HW.out HA.out (by simp) (by simp))
        clear hq
        go_wp2_with fail
        refine (show Calls Tryz.prog 34 #[.pointer (some ⟨bp, 0, none⟩), .slice (some ⟨wr.heap.size, 0, none⟩) 1 1] (wr.alloc (.cells #[.string ⟨#[44, 32]⟩] 9)) (WrP bp wr ac True [[44, 32]].flatten) from HPU.out).mono ?_
        rintro e w2 ⟨rfl, r, h1, h2, h3, h4⟩
        have HS := Lib.hid (one w2 bp gb p r h1 h2 ((HK.out.trans h4).blk HG.out hgb neP) HP.out)
        have H3 := Lib.hid h3; have H4 := Lib.hid (HK.out.trans h4)
        clear h1 h2 h3 h4
        go_wp2_with fail
        refine HS.out.mono ?_
        rintro e w3 ⟨rfl, r2, h1, h2, h3, h4⟩
        have H1 := Lib.hid h1; have H2 := Lib.hid h2; have H5 := Lib.hid h3; have H6 := Lib.hid (H4.out.trans h4)
        clear h1 h2 h3 h4
        go_wp2_with fail
        go_roundw
        case rel => exact ⟨i + 1, r2, by omega, by go_num, H1, H2, H6, Lib.hid fun r' hr => HQ2.out r' ((((H3.out trivial).eq (by simp)).trans ((H5.out trivial).trans (by rw [HI1.out] at hr; exact hr))))⟩
        case measure => simp [intOf]; omega
    · obtain rfl : i = ps.length := by omega
      have hq := HQ.out
      rw [List.drop_length, show naT (decide (ps.length = 0)) [] = [] from rfl] at hq
      have HQ2 := Lib.hid hq
      clear hq
      go_wp2_with fail
      first | go_end0 | skip
      all_goals first | exact ⟨rfl, ac, HW.out, HA.out, fun _ => HQ2.out ac (Cut.nil ac), HK.out⟩ | exact bodyPost_ret (results_none rfl _ _ _) rfl ⟨rfl, ac, HW.out, HA.out, fun _ => HQ2.out ac (Cut.nil ac), HK.out⟩
set_option maxRecDepth 100000 in
set_option maxHeartbeats 2000000 in
theorem namesW (w0 w : World) (bp : Nat) (A : Option Addr) (c : Nat) (ps : List Bs) (acc : Bs) (hL : Lies w0 A (ps.map strV)) (hl : ps.length ≤ maxLen) (hps : ∀ p ∈ ps, p.length ≤ 1048576) (hb : Below w0.heap.size w0 w) (h0 : w0.heap.size ≤ bp) (h : IsW bp acc w) (ha : acc.length ≤ 1068576) :
    Calls Tryz.prog 78 #[.pointer (some ⟨bp, 0, none⟩), .slice A ps.length c] w (WrP bp w acc True (naT true ps)) := by
  have hlt := h.lt
  have hb1 : Below w.heap.size w (w.alloc (.cells #[.pointer (some ⟨bp, 0, none⟩)] 41)) := (Below.refl _ _).alloc (Nat.le_refl _) _
  have HS := Lib.hid (listS w0 (w.alloc (.cells #[.pointer (some ⟨bp, 0, none⟩)] 41)) bp w.heap.size A c ps acc hL hl hps (hb.trans (hb1.mono hb.size)) h0 (isW_below h hb1) ha (Blk.new _ _ _) (by omega))
  have HK := Lib.hid (kept_below hb1 hlt)
  clear hL hps hb h hl hb1
  go_enter Tryz.func78, Tryz.ntmps78
  go_wp2_with fail
  refine HS.out.mono ?_
  rintro e w2 ⟨rfl, r, h1, h2, h3, h4⟩
  have H1 := Lib.hid h1; have H3 := Lib.hid h3; have H4 := Lib.hid (HK.out.trans h4)
  clear h1 h3 h4
  go_wp2_with fail
  first | go_end0 | skip
  all_goals first | exact ⟨rfl, r, H1.out, h2, H3.out, H4.out⟩ | exact bodyPost_ret (results_none rfl _ _ _) rfl ⟨rfl, r, H1.out, h2, H3.out, H4.out⟩
/-- The writer's expr, of trees smaller than m. -/
def ExW (m : Nat) : Prop := ∀ (z : Tz), SizeOf.sizeOf z < m → ls z = true → okz z → ∀ (w0 w : World) (bp : Nat) (acc : Bs) (k a : Int) (s : Bs) (n : Nat) (A : Option Addr) (la cA : Nat) (B : Option Addr) (lb cB : Nat), TIz w0 z (nzC k a s n A la cA B lb cB) →
  Lib.TabIs Tryz.prog w0 "internal/strconv.uint64pow10" .u64 Lib.pow10Tab → Below w0.heap.size w0 w → w0.heap.size ≤ bp → IsW bp acc w → acc.length ≤ 1068576 →
  Calls Tryz.prog 22 #[.pointer (some ⟨bp, 0, none⟩), nzA k a s n A la cA B lb cB] w (WrP bp w acc (shE z) (exT dec z))
theorem exop {z : Tz} : exT dec z = opT dec false z := by
  rw [opT_eq]; rfl
set_option maxRecDepth 100000 in
set_option maxHeartbeats 1000000 in
theorem listE {m : Nat} (H : ExW m) (l : List Tz) (hm : ∀ (i : Nat) (x : Tz), l[i]? = some x → SizeOf.sizeOf x < m) (hls : lss l = true) (hok : okzs l) (w0 w : World) (bp : Nat) (A : Option Addr) (c : Nat) (css : List (List Value)) (acc : Bs) (hL : Lies w0 A css.flatten) (hS : TsIz w0 l css) (hl : l.length ≤ maxLen)
    (hT : Lib.TabIs Tryz.prog w0 "internal/strconv.uint64pow10" .u64 Lib.pow10Tab) (hb : Below w0.heap.size w0 w) (h0 : w0.heap.size ≤ bp) (h : IsW bp acc w) (ha : acc.length ≤ 1068576) :
    Calls Tryz.prog 45 #[.pointer (some ⟨bp, 0, none⟩), .slice A l.length c, .func (.func 22) #[.pointer (some ⟨bp, 0, none⟩)] #[]] w (WrP bp w acc (shEs l) (liT dec [44, 32] false true l)) := by
  have hlm : l.length ≤ 9223372036854775807 := hl
  have HL := Lib.hid hL; have HS := Lib.hid hS; have HB := Lib.hid hb; have HI : Hid (IsW bp acc w) := Lib.hid h; have HM := Lib.hid hm; have HLS := Lib.hid hls; have HOK := Lib.hid hok; have HT := Lib.hid hT
  clear hL hS hb h hl hm hls hok hT
  go_enter Tryz.func45, Tryz.ntmps45
  go_wp2_with fail
  go_loopw [10] (fun vi wr => ∃ (i : Nat) (ac : Bs), i ≤ l.length ∧ vi = .int .i64 (i : Int) ∧ Hid (IsW bp ac wr) ∧ Hid (ac.length ≤ 1068576) ∧ Hid (Kept bp w wr) ∧ Hid (shEs l → ∀ r, Cut ac (liT dec [44, 32] false (decide (i = 0)) (l.drop i)) r → Cut acc (liT dec [44, 32] false true l) r)) (fun vi _ => l.length - (intOf vi).toNat)
  case atStart => exact ⟨0, acc, by omega, rfl, HI, Lib.hid ha, Lib.hid (Kept.refl _ _), Lib.hid fun _ r hr => hr⟩
  case round =>
    obtain ⟨i, ac, hi, rfl, HW, HA, HK, HQ⟩ := hrel
    by_cases hlt : i < l.length
    · obtain ⟨x, hx⟩ : ∃ x, l[i]? = some x := ⟨_, List.getElem?_eq_getElem hlt⟩
      obtain ⟨b, o, k3, a3, s3, n3, A3, la3, cA3, B3, lb3, cB3, rfl, hTx, hb3, e0, e1, e2, e3, e4, e5⟩ := partz_b (low_trans HB.out h0 HK.out) HL.out HS.out hx
      have hq := HQ.out
      rw [drop_at hx, liT_cons, ← exop] at hq
      have HI1 := Lib.hid (show decide (i + 1 = 0) = false from decide_eq_false (by omega))
      have HC := Lib.hid fun (wb : World) (ab : Bs) (hbb : Below w0.heap.size w0 wb) (hw : IsW bp ab wb) (hl2 : ab.length ≤ 1068576) => H x (HM.out i x hx) (lss_at HLS.out hx) (okzs_at HOK.out hx) w0 wb bp ab k3 a3 s3 n3 A3 la3 cA3 B3 lb3 cB3 hTx HT.out hbb h0 hw hl2
      have HSX := Lib.hid (fun hs : shEs l => shEs_at hs hx)
      obtain ⟨wn, hwn⟩ : ∃ wn, wr.alloc (.cells #[.int .i64 k3, .string ⟨s3.toArray⟩, .int .u32 (n3 : Int), .int .i64 a3, .slice A3 la3 cA3, .slice B3 lb3 cB3] 26) = wn := ⟨_, rfl⟩
      have hbn : Below wr.heap.size wr wn := by rw [← hwn]; exact (Below.refl _ _).alloc (Nat.le_refl _) _
      have hXn : Blk wn wr.heap.size 26 #[.int .i64 k3, .string ⟨s3.toArray⟩, .int .u32 (n3 : Int), .int .i64 a3, .slice A3 la3 cA3, .slice B3 lb3 cB3] := by rw [← hwn]; exact Blk.new _ _ _
      have hlr := HW.out.lt
      have HSZ := Lib.hid (show wn.heap.size = wr.heap.size + 1 by rw [← hwn]; simp)
      have HKN := Lib.hid (HK.out.trans (kept_below hbn hlr)); have HWN : Hid (IsW bp ac wn) := Lib.hid (isW_below HW.out hbn); have HXN := Lib.hid hXn; have HN := Lib.hid hwn
      have hnl := hXn.lt
      clear hTx hx HQ hbn hXn hwn
      by_cases hi0 : i = 0
      · have HQ2 : Hid (shEs l → ∀ r, Cut ac (exT dec x ++ liT dec [44, 32] false false (l.drop (i + 1))) r → Cut acc (liT dec [44, 32] false true l) r) := Lib.hid (by rw [decide_eq_true hi0] at hq; simpa using hq)
        have i1 : decide (0 < i) = false := by simp; omega
        clear hi0
        obtain ⟨⟨g0, g1, g2, g3, g4, g5⟩, z0, z1, z2, z3, z4, z5⟩ := Blk.c6 HXN.out
        have HS1 := Lib.hid (HC.out wn ac (low_trans HB.out h0 HKN.out) HWN.out HA.out)
        clear hq HC
        go_wp2_with fail
        rw [HN.out]
        refine HS1.out.mono ?_
        rintro e w2 ⟨rfl, r, h1, h2, h3, h4⟩
        have H1 := Lib.hid h1; have H2 := Lib.hid h2; have H3 := Lib.hid h3; have H4 := Lib.hid (HKN.out.trans h4)
        clear h1 h2 h3 h4
        go_wp2_with fail
        go_roundw
        case rel => exact ⟨i + 1, r, by omega, by go_num, H1, H2, H4, Lib.hid fun hs r' hr => HQ2.out hs r' ((H3.out (HSX.out hs)).trans (by rw [HI1.out] at hr; exact hr))⟩
        case measure => simp [intOf]; omega
      · have i1 : decide (0 < i) = true := by simp; omega
        have HQ2 : Hid (shEs l → ∀ r, Cut ac ([44, 32] ++ (exT dec x ++ liT dec [44, 32] false false (l.drop (i + 1)))) r → Cut acc (liT dec [44, 32] false true l) r) := Lib.hid (by rw [decide_eq_false hi0] at hq; simpa using hq)
        have hpu := putN wn bp [[44, 32]] ac HWN.out HA.out (by simp) (by simp)
        rw [HSZ.out] at hpu
        have HPU := Lib.hid hpu
        clear hpu
        clear hq
        go_wp2_with fail
        rw [HN.out]
        refine (show Calls Tryz.prog 34 #[.pointer (some ⟨bp, 0, none⟩), .slice (some ⟨wr.heap.size + 1, 0, none⟩) 1 1] (wn.alloc (.cells #[.string ⟨#[44, 32]⟩] 9)) (WrP bp wn ac True [[44, 32]].flatten) from HPU.out).mono ?_
        rintro e w2 ⟨rfl, r, h1, h2, h3, h4⟩
        have hx2 := h4.blk HXN.out (by omega) neN
        obtain ⟨⟨g0, g1, g2, g3, g4, g5⟩, z0, z1, z2, z3, z4, z5⟩ := Blk.c6 hx2
        have HS1 := Lib.hid (HC.out w2 r (low_trans HB.out h0 (HKN.out.trans h4)) h1 h2)
        have H3 := Lib.hid h3; have H4 := Lib.hid (HKN.out.trans h4)
        clear h1 h2 h3 h4 hx2 HC
        go_wp2_with fail
        refine HS1.out.mono ?_
        rintro e w3 ⟨rfl, r2, h1, h2, h3, h4⟩
        have H1 := Lib.hid h1; have H2 := Lib.hid h2; have H5 := Lib.hid h3; have H6 := Lib.hid (H4.out.trans h4)
        clear h1 h2 h3 h4
        go_wp2_with fail
        go_roundw
        case rel => exact ⟨i + 1, r2, by omega, by go_num, H1, H2, H6, Lib.hid fun hs r' hr => HQ2.out hs r' (((H3.out trivial).eq (by simp)).trans ((H5.out (HSX.out hs)).trans (by rw [HI1.out] at hr; exact hr)))⟩
        case measure => simp [intOf]; omega
    · obtain rfl : i = l.length := by omega
      have hq := HQ.out
      rw [List.drop_length, show liT dec [44, 32] false (decide (l.length = 0)) [] = [] by unfold liT; rfl] at hq
      have HQ2 := Lib.hid hq
      clear hq
      go_wp2_with fail
      first | go_end0 | skip
      all_goals first | exact ⟨rfl, ac, HW.out, HA.out, fun hs => HQ2.out hs ac (Cut.nil ac), HK.out⟩ | exact bodyPost_ret (results_none rfl _ _ _) rfl ⟨rfl, ac, HW.out, HA.out, fun hs => HQ2.out hs ac (Cut.nil ac), HK.out⟩
end Go.Proofs.YtokfmclbninkmaaGreatDoor.Wr
