/- DERIVED. NmRu, NmWu in one text. By an AI agent. -/
import Derived.Test.YtpoepignpdfleaaGreatDoorZ14
import Derived.Test.YtpoepignpdfleaaGreatDoorZ05
import Derived.Test.YtpoepignpdfleaaGreatDoorZ38
import Derived.Test.YtpoepignpdfleaaGreatDoorZ07
import Derived.Test.YtpoepignpdfleaaGreatDoorZ10
/- DERIVED. Small; the reference's In of many, and its Uses. By an AI agent. -/
namespace Go.Proofs.YtpoepignpdfleaaGreatDoor.Nm
open Go Go.ChangeShapes Go.WideShapes Go.ChangeAt Go.RowKit Lx Args Pa Sh
set_option linter.unusedVariables false
set_option linter.unusedSimpArgs false
set_option maxRecDepth 100000 in
theorem small (z : Tz) (w : World) (k a : Int) (s : Bs) (n : Nat) (A : Option Addr) (la cA : Nat) (B : Option Addr) (lb cB : Nat) (hT : TIz w z (nzC k a s n A la cA B lb cB)) :
    Calls Tryz.prog 11 #[nzA k a s n A la cA B lb cB] w fun e w' => e = .returned (.bool (decide (pa 300 3000 z ≤ 3000))) ∧ Below w.heap.size w w' := by
  obtain ⟨w1, hw1, hb1, hX1, hs1⟩ := a_box w (nB k a s n A la cA B lb cB)
  have HP := Lib.hid (rparts (SizeOf.sizeOf z + 1) z (Nat.lt_succ_self _) w1 k a s n A la cA B lb cB 300 3000 (by decide) (by decide) (TIz.below hb1 hT))
  have hpl := pa_le z 300 3000
  have HW := Lib.hid hw1; have HB1 := Lib.hid hb1
  generalize pa 300 3000 z = np at *
  clear hT hw1 hb1 hX1 hs1
  obtain ⟨bn, hbn⟩ : ∃ bn : Bool, decide (np ≤ 3000) = bn := ⟨_, rfl⟩
  have hbi : decide ((np : Int) ≤ 3000) = bn := by rw [← hbn]; congr 1; simp only [eq_iff_iff]; omega
  rw [hbn]
  clear hpl
  go_enter Tryz.func11, Tryz.ntmps11
  go_wp2_with fail
  rw [HW.out]
  refine (show Calls Tryz.prog 20 #[nzA k a s n A la cA B lb cB, .int .i64 300, .int .i64 3000] w1 _ from HP.out).mono ?_
  rintro e w2 ⟨rfl, hb2⟩
  have HB2 := Lib.hid (HB1.out.trans (hb2.mono HB1.out.size))
  clear hb2
  go_wp2_with fail
  go_ret
  exact ⟨by first | rfl | (simp [hbn]; done) | (simp [hbi]; done), HB2.out⟩
set_option maxHeartbeats 1000000 in
theorem in_big (A : Option Addr) (c : Nat) (l : List Bs) (s : ByteArray) (w : World) (hA : Lies w A (strs l)) (hl : l.length ≤ maxLen) :
    Calls Tryz.prog 24 #[.slice A l.length c, .string s] w fun e w' => e = .returned (.bool (l.contains s.data.toList)) ∧ w = w' := by
  have hlm : l.length ≤ 9223372036854775807 := hl
  have hin := inL l s.data.toList
  have HA := Lib.hid hA; have HIN := Lib.hid hin
  clear hA hin hl
  generalize hb : l.contains s.data.toList = b at *
  have HB := Lib.hid hb
  clear hb
  go_enter Tryz.func24, Tryz.ntmps24
  go_wp2_with fail
  go_loop [5] (fun vi => ∃ k : Nat, k ≤ l.length ∧ vi = .int .i64 k ∧ Hid (∀ j, j < k → l[j]? ≠ some s.data.toList)) (fun vi => l.length - (intOf vi).toNat)
  case atStart => exact ⟨0, by omega, rfl, Lib.hid fun j hj => absurd hj (by omega)⟩
  case round =>
    obtain ⟨k, hk, rfl, HQ⟩ := hrel
    by_cases hlt : k < l.length
    · obtain ⟨t, ht⟩ : ∃ t, l[k]? = some t := ⟨_, List.getElem?_eq_getElem hlt⟩
      have ht2 : (strs l)[k]? = some (.string ⟨t.toArray⟩) := by simp [ht]
      obtain ⟨b', o, rfl, _, hc⟩ := HA.out.at_ ht2
      have e1 := hc _ _ ht2
      have HTT := Lib.hid ht
      clear hc ht2 ht
      cases hq : (t == s.toList) with
      | true =>
        have hts : t = s.data.toList := by have := eq_of_beq hq; rwa [ByteArray.toList_eq] at this
        have HR := Lib.hid (show b = true from by rw [← HB.out, List.contains_eq_mem, decide_eq_true_eq, ← hts]; exact List.mem_of_getElem? HTT.out)
        clear hts
        go_wp2_with fail
        go_ret
        exact ⟨(congrArg (fun b => Ending.returned (Value.bool b)) HR.out).symm, rfl⟩
      | false =>
        have hts : t ≠ s.data.toList := fun e => by rw [ByteArray.toList_eq, e] at hq; simp at hq
        have HTS := Lib.hid hts
        clear hts
        go_wp2_with fail
        go_round
        case rel => exact ⟨k + 1, by omega, by go_num, Lib.hid fun j hj => by
          by_cases hjk : j < k
          · exact HQ.out j hjk
          · obtain rfl : j = k := by omega
            rw [HTT.out]; intro e; exact HTS.out (Option.some.inj e)⟩
        case measure => simp [intOf]; omega
    · have HR := Lib.hid (show b = false from by rw [← HIN.out k HQ.out, List.drop_of_length_le (by omega)]; rfl)
      go_wp2_with fail
      go_ret
      exact ⟨(congrArg (fun b => Ending.returned (Value.bool b)) HR.out).symm, rfl⟩
theorem usB_mk (k a : Int) (s : Bs) (n : Nat) (ps : List Bs) (q : List Tz) (l : List Bs) : usB l (.mk k a s n ps q) = usBs (usN k s l) q := by
  conv => lhs; unfold usB
  rfl
theorem usBs_cons (x : Tz) (q : List Tz) (l : List Bs) : usBs l (x :: q) = usBs (usB l x) q := by conv => lhs; unfold usBs
theorem usBs_nil (l : List Bs) : usBs l [] = l := by unfold usBs; rfl
theorem usN_len (k : Int) (s : Bs) (l : List Bs) : (usN k s l).length ≤ l.length + 1 := by
  unfold usN
  split
  · simp
  · omega
mutual
theorem usB_len : ∀ (z : Tz) (l : List Bs), (usB l z).length ≤ l.length + cntz z
  | .mk k a s n ps q, l => by
    rw [usB_mk]
    have h1 := usBs_len q (usN k s l)
    have h2 := usN_len k s l
    have h3 : cntz (.mk k a s n ps q) = 1 + cnts q := rfl
    omega
theorem usBs_len : ∀ (q : List Tz) (l : List Bs), (usBs l q).length ≤ l.length + cnts q
  | [], l => by rw [usBs_nil]; omega
  | x :: q, l => by
    rw [usBs_cons]
    have h1 := usBs_len q (usB l x)
    have h2 := usB_len x l
    have h3 : cnts (x :: q) = cntz x + cnts q := rfl
    omega
end
theorem usBs_take : ∀ (q : List Tz) (i : Nat) (x : Tz) (l : List Bs), q[i]? = some x → usBs l (q.take (i + 1)) = usB (usBs l (q.take i)) x
  | [], i, x, l, h => by simp at h
  | y :: q, 0, x, l, h => by
    have : y = x := by simpa using h
    subst this
    rw [List.take_succ_cons, List.take_zero, List.take_zero, usBs_cons, usBs_nil, usBs_nil]
  | y :: q, i + 1, x, l, h => by
    rw [List.take_succ_cons, List.take_succ_cons, usBs_cons, usBs_cons, usBs_take q i x _ (by simpa using h)]
theorem cnts_take : ∀ (q : List Tz) (i : Nat) (x : Tz), q[i]? = some x → cnts (q.take i) + cntz x ≤ cnts q
  | [], i, x, h => by simp at h
  | y :: q, 0, x, h => by
    have : y = x := by simpa using h
    subst this
    have h3 : cnts (y :: q) = cntz y + cnts q := rfl
    rw [List.take_zero, h3, show cnts [] = 0 from rfl]
    omega
  | y :: q, i + 1, x, h => by
    have := cnts_take q i x (by simpa using h)
    have h3 : cnts (y :: q) = cntz y + cnts q := rfl
    have h4 : cnts (y :: q.take i) = cntz y + cnts (q.take i) := rfl
    rw [List.take_succ_cons, h3, h4]
    omega
/-- Where a list lies behind something is added: where it was, or new. -/
def NewV (w : World) (v v' : Value) : Prop := v'.ownBlock = v.ownBlock ∨ ∃ b, v'.ownBlock = some b ∧ w.heap.size ≤ b
/-- What the reference's Uses hands back. -/
def RuP (w0 w : World) (v : Value) (l : List Bs) (e : Ending) (w' : World) : Prop := ∃ v', e = .returned v' ∧ w'.ownsRow w0.heap.size 9 1 v' l.length (l.map strV) ∧ Upd (fun b => v.ownBlock = some b) w w' ∧ NewV w v v'
set_option maxRecDepth 100000 in
set_option maxHeartbeats 4000000 in
theorem ruses : ∀ (M : Nat) (z : Tz), SizeOf.sizeOf z < M → ∀ (w0 w : World) (v : Value) (l : List Bs) (k a : Int) (s : Bs) (n : Nat) (A : Option Addr) (la cA : Nat) (B : Option Addr) (lb cB : Nat), TIz w0 z (nzC k a s n A la cA B lb cB) → Below w0.heap.size w0 w → w.ownsRow w0.heap.size 9 1 v l.length (l.map strV) → l.length + cntz z ≤ 1099511627776 →
    Calls Tryz.prog 14 #[v, nzA k a s n A la cA B lb cB] w (RuP w0 w v (usB l z))
  | 0, z, h => absurd h (Nat.not_lt_zero _)
  | M + 1, .mk k1 a1 s1 n1 ps q, hM => fun w0 w v l k a s n A la cA B lb cB hT hb hO hlim => by
    obtain ⟨rfl, rfl, rfl, rfl, rfl, rfl, hl, hp, hB, css, hL, hS⟩ := tIz_parts hT
    obtain ⟨i0, hi, hz⟩ := Option.map_eq_some_iff.1 infoS
    have hz0 := congrArg (·.1) hz; have hz1 := congrArg (·.2.1) hz; have hz2 := congrArg (·.2.2) hz
    have HI := Lib.hid hi; have HZ0 := Lib.hid hz0; have HZ1 := Lib.hid hz1; have HZ2 := Lib.hid hz2
    clear hi hz hz0 hz1 hz2
    have hlm : q.length ≤ 9223372036854775807 := hl
    obtain ⟨wn, hwn, hbn, hXn, hsn⟩ := a_box w (nB k a s n A q.length cA B ps.length cB)
    obtain ⟨⟨e0, e1, e2, e3, e4, e5⟩, z0, z1, z2, z3, z4, z5⟩ := Blk.c6 hXn
    have IH := Lib.hid (ruses M)
    have hcz : cntz (.mk k a s n ps q) = 1 + cnts q := rfl
    rw [hcz] at hlim
    rw [usB_mk]
    have hown := own_updV hO (Upd.of_below hbn fun _ => False) fun _ _ h => h
    have hvat := own_atV hO
    have HO := Lib.hid hown; have HVA := Lib.hid hvat; have HBN := Lib.hid hbn; have HW := Lib.hid hwn; have HXN := Lib.hid hXn; have HB0 := Lib.hid (hb.trans (hbn.mono hb.size)); have HL := Lib.hid hL; have HS := Lib.hid hS; have HM := Lib.hid hM; have HLIM := Lib.hid hlim; have HSN := Lib.hid hsn
    have hul := usN_len k s l
    obtain ⟨l1, hl1⟩ : ∃ l1, usN k s l = l1 := ⟨_, rfl⟩
    rw [hl1] at hul ⊢
    have HUL := Lib.hid hul; have HL1 := Lib.hid hl1; have HB := Lib.hid hb
    have hs3 : (ByteArray.mk s.toArray).data.toList = s := by simp
    have HS3 := Lib.hid hs3
    clear hown hvat hbn hwn hXn hb hL hS hM hcz hsn hT hB hO hul hl1 hlim hs3
    go_enter Tryz.func14, Tryz.ntmps14
    by_cases hk : k = 1
    · subst hk
      obtain ⟨Av, cv, hv⟩ := own_sl HO.out
      have hll : l.length ≤ maxLen := by have := HLIM.out; unfold maxLen; omega
      have HIN := Lib.hid (show Calls Tryz.prog 24 #[v, .string ⟨s.toArray⟩] wn fun e w' => e = .returned (.bool (l.contains (ByteArray.mk s.toArray).data.toList)) ∧ wn = w' from by
        rw [hv]; exact in_big Av cv l ⟨s.toArray⟩ wn (lies_own (hv ▸ HO.out)) hll)
      obtain ⟨r, hr⟩ : ∃ r, l.contains s = r := ⟨_, rfl⟩
      have hin := HIN.out
      rw [HS3.out, hr] at hin
      have HIN2 := Lib.hid hin; have HR := Lib.hid hr
      clear hin hr HIN hv
      go_upto_region 1 with fail
      rw [HW.out]
      go_wp2_with fail
      refine HIN2.out.mono ?_
      rintro e w' ⟨rfl, rfl⟩
      cases r with
      | true =>
        have hl : l = l1 := by rw [← HL1.out]; unfold usN; rw [if_neg (fun h => h.2 (List.contains_iff_mem.1 HR.out))]
        have H1 := Lib.hid (show wn.ownsRow w0.heap.size 9 1 v (usBs l1 (q.take 0)).length ((usBs l1 (q.take 0)).map strV) from by rw [List.take_zero, usBs_nil, ← hl]; exact HO.out)
        have HU1 := Lib.hid (Upd.of_below HBN.out (fun b => v.ownBlock = some b)); have HNV1 : Hid (NewV wn v v) := Lib.hid (.inl rfl); have HX1 := HXN
        clear hl
        go_wp2_with fail
        go_loopw [0, 5] (fun va vi wr => ∃ (i : Nat) (v0 : Value), i ≤ q.length ∧ v0 = va ∧ vi = .int .i64 (i : Int) ∧ Hid (wr.ownsRow w0.heap.size 9 1 v0 (usBs l1 (q.take i)).length ((usBs l1 (q.take i)).map strV)) ∧ Hid (Upd (fun b => v.ownBlock = some b) w wr) ∧ Hid (NewV wn v v0) ∧ Hid (Blk wr w.heap.size 26 (nB 1 a s n A q.length cA B ps.length cB))) (fun _ vi _ => q.length - (intOf vi).toNat)
        case atStart => exact ⟨0, _, by omega, rfl, rfl, H1, HU1, HNV1, HX1⟩
        case round =>
          clear H1 HU1 HNV1 HX1
          (try clear e0 e1 e2 e3 e4 e5 z0 z1 z2 z3 z4 z5)
          obtain ⟨i, v0, hi, rfl, rfl, HOr, HUr, HNr, HXr⟩ := hrel
          obtain ⟨⟨e0, e1, e2, e3, e4, e5⟩, z0, z1, z2, z3, z4, z5⟩ := Blk.c6 HXr.out
          by_cases hlt : i < q.length
          · obtain ⟨x, hx⟩ : ∃ x, q[i]? = some x := ⟨_, List.getElem?_eq_getElem hlt⟩
            have HBr := Lib.hid (HB.out.trans (HUr.out.below HB.out.size fun b hb => (HVA.out b hb).1))
            obtain ⟨b2, o2, k3, a3, s3, n3, A3, la3, cA3, B3, lb3, cB3, rfl, hTx, hb3, g0, g1, g2, g3, g4, g5⟩ := partz_b HBr.out HL.out HS.out hx
            have hul := usBs_len (q.take i) l1
            have hct := cnts_take q i x hx
            have HC := Lib.hid (IH.out x (Nat.lt_of_lt_of_le (size_memz hx) (Nat.le_of_lt_succ HM.out)) w0 _ _ (usBs l1 (q.take i)) k3 a3 s3 n3 A3 la3 cA3 B3 lb3 cB3 hTx HBr.out HOr.out (by have := HLIM.out; have := HUL.out; omega))
            rw [← usBs_take q i x l1 hx] at HC
            clear hTx hx hul hct
            go_wp2_with fail
            refine HC.out.mono ?_
            rintro e w2 ⟨v2, rfl, ho2, hu2, hn2⟩
            have HO2 := Lib.hid ho2
            have HN2 := Lib.hid (show NewV wn v v2 from by
              rcases hn2 with h | ⟨b, h, hb⟩
              · rcases HNr.out with h' | ⟨b, h', hb⟩
                · exact .inl (h.trans h')
                · exact .inr ⟨b, h.trans h', hb⟩
              · exact .inr ⟨b, h, by have := HUr.out.size; have := HXr.out.lt; have := HSN.out; omega⟩)
            have hxr : ∀ b, v0.ownBlock = some b → b < w.heap.size → v.ownBlock = some b := fun b hb hlb => by
              rcases HNr.out with h' | ⟨b', h', hb'⟩
              · exact h'.symm.trans hb
              · rw [h'] at hb; cases hb; have := HSN.out; omega
            have HU2 := Lib.hid (upd_then HUr.out hu2 hxr)
            have HX2 := Lib.hid (HXr.out.upd hu2 fun hb => by
              rcases HNr.out with h' | ⟨b', h', hb'⟩
              · have := HVA.out _ (h'.symm.trans hb); have := this.2; omega
              · rw [h'] at hb; cases hb; have := HSN.out; omega)
            clear ho2 hu2 hn2 hxr HC e0 e1 e2 e3 e4 e5 z0 z1 z2 z3 z4 z5 g0 g1 g2 g3 g4 g5
            go_wp2_with fail
            go_roundw
            case rel => exact ⟨i + 1, _, by omega, rfl, by go_num, HO2, HU2, HN2, HX2⟩
            case measure => simp [intOf]; omega
          · have HEND := Lib.hid (show RuP w0 w v (usBs l1 q) (.returned v0) wr from ⟨_, rfl, by have h := HOr.out; rw [List.take_of_length_le (by omega)] at h; exact h, HUr.out, by
              rcases HNr.out with h' | ⟨b', h', hb'⟩
              · exact .inl h'
              · exact .inr ⟨b', h', by have := HSN.out; omega⟩⟩)
            go_wp2_with fail
            go_ret
            exact HEND.out
      | false =>
        have hl : l ++ [s] = l1 := by rw [← HL1.out]; unfold usN; rw [if_pos ⟨rfl, fun h => by have := List.contains_iff_mem.2 h; rw [HR.out] at this; cases this⟩]
        obtain ⟨w2, hw2⟩ : ∃ w2, wn.alloc (.cells #[.string ⟨s.toArray⟩] 9) = w2 := ⟨_, rfl⟩
        have hb2 : Below wn.heap.size wn w2 := by rw [← hw2]; exact (Below.refl _ _).alloc (Nat.le_refl _) _
        have hL2 : Lies w2 (some ⟨wn.heap.size, 0, none⟩) [strV s] := by rw [← hw2]; exact lies_full _ _ [strV s]
        have ho2 := own_updV HO.out (Upd.of_below hb2 fun _ => False) fun _ _ h => h
        have hX2 := HXN.out.below hb2 HXN.out.lt
        have hlo2 : w0.heap.size ≤ w2.heap.size := by have := hb2.size; have := HB0.out.size; omega
        have hll : l.length + 1 ≤ 1099511627776 := by have := HLIM.out; omega
        have HW2 := Lib.hid hw2; have HB2 := Lib.hid hb2; have HL2 := Lib.hid hL2; have HO2 := Lib.hid ho2; have HLO2 := Lib.hid hlo2; have HLL := Lib.hid hl; have HX2 := Lib.hid hX2
        clear hw2 hb2 hL2 ho2 hlo2 hl e0 e1 e2 e3 e4 e5 z0 z1 z2 z3 z4 z5
        obtain ⟨⟨e0, e1, e2, e3, e4, e5⟩, z0, z1, z2, z3, z4, z5⟩ := Blk.c6 HXN.out
        go_wp2_with (at_builtin; rw [HW2.out]; refine wpList_where rfl _ _ 24 rfl w0.heap.size 9 i0 (.string ⟨#[]⟩) 1 16 Tryz.underlying24 HI.out HZ0.out HZ1.out HZ2.out rfl (by decide) _ l.length _ rfl HO2.out ⟨wn.heap.size, 0, none⟩ 1 1 [strV s] rfl rfl HL2.out (by simp [strV, Value.oneCell']) (by unfold maxLen; omega) (by omega) HLO2.out (by decide) ?_; intro g8 c8 w8 hE; have HE8 := Lib.hid hE; clear hE)
        have hu8 := (Upd.of_below HB2.out (fun b => v.ownBlock = some b)).grown HE8.out.grown (fun k hk _ => hk)
        have H1 := Lib.hid (show w8.ownsRow w0.heap.size 9 1 (.slice (some ⟨g8, 0, none⟩) (l.length + 1) c8) (usBs l1 (q.take 0)).length ((usBs l1 (q.take 0)).map strV) from by
          rw [List.take_zero, usBs_nil, ← HLL.out, List.length_append, List.map_append]; exact HE8.out.own)
        have HU1 := Lib.hid (upd_then (Upd.of_below HBN.out (fun b => v.ownBlock = some b)) hu8 fun b hb _ => hb)
        have HNV1 : Hid (NewV wn v (.slice (some ⟨g8, 0, none⟩) (l.length + 1) c8)) := Lib.hid (by
          rcases HE8.out.at_ with h | h
          · exact .inl h
          · exact .inr ⟨g8, rfl, by have := HB2.out.size; omega⟩)
        have HX1 := Lib.hid (HX2.out.upd (((Upd.refl (fun b => v.ownBlock = some b) w2)).grown HE8.out.grown (fun k hk _ => hk)) fun h => by have := (HVA.out _ h).2; omega)
        clear hu8 e0 e1 e2 e3 e4 e5 z0 z1 z2 z3 z4 z5
        go_wp2_with fail
        go_loopw [0, 5] (fun va vi wr => ∃ (i : Nat) (v0 : Value), i ≤ q.length ∧ v0 = va ∧ vi = .int .i64 (i : Int) ∧ Hid (wr.ownsRow w0.heap.size 9 1 v0 (usBs l1 (q.take i)).length ((usBs l1 (q.take i)).map strV)) ∧ Hid (Upd (fun b => v.ownBlock = some b) w wr) ∧ Hid (NewV wn v v0) ∧ Hid (Blk wr w.heap.size 26 (nB 1 a s n A q.length cA B ps.length cB))) (fun _ vi _ => q.length - (intOf vi).toNat)
        case atStart => exact ⟨0, _, by omega, rfl, rfl, H1, HU1, HNV1, HX1⟩
        case round =>
          clear H1 HU1 HNV1 HX1
          (try clear e0 e1 e2 e3 e4 e5 z0 z1 z2 z3 z4 z5)
          obtain ⟨i, v0, hi, rfl, rfl, HOr, HUr, HNr, HXr⟩ := hrel
          obtain ⟨⟨e0, e1, e2, e3, e4, e5⟩, z0, z1, z2, z3, z4, z5⟩ := Blk.c6 HXr.out
          by_cases hlt : i < q.length
          · obtain ⟨x, hx⟩ : ∃ x, q[i]? = some x := ⟨_, List.getElem?_eq_getElem hlt⟩
            have HBr := Lib.hid (HB.out.trans (HUr.out.below HB.out.size fun b hb => (HVA.out b hb).1))
            obtain ⟨b2, o2, k3, a3, s3, n3, A3, la3, cA3, B3, lb3, cB3, rfl, hTx, hb3, g0, g1, g2, g3, g4, g5⟩ := partz_b HBr.out HL.out HS.out hx
            have hul := usBs_len (q.take i) l1
            have hct := cnts_take q i x hx
            have HC := Lib.hid (IH.out x (Nat.lt_of_lt_of_le (size_memz hx) (Nat.le_of_lt_succ HM.out)) w0 _ _ (usBs l1 (q.take i)) k3 a3 s3 n3 A3 la3 cA3 B3 lb3 cB3 hTx HBr.out HOr.out (by have := HLIM.out; have := HUL.out; omega))
            rw [← usBs_take q i x l1 hx] at HC
            clear hTx hx hul hct
            go_wp2_with fail
            refine HC.out.mono ?_
            rintro e w2 ⟨v2, rfl, ho2, hu2, hn2⟩
            have HO2 := Lib.hid ho2
            have HN2 := Lib.hid (show NewV wn v v2 from by
              rcases hn2 with h | ⟨b, h, hb⟩
              · rcases HNr.out with h' | ⟨b, h', hb⟩
                · exact .inl (h.trans h')
                · exact .inr ⟨b, h.trans h', hb⟩
              · exact .inr ⟨b, h, by have := HUr.out.size; have := HXr.out.lt; have := HSN.out; omega⟩)
            have hxr : ∀ b, v0.ownBlock = some b → b < w.heap.size → v.ownBlock = some b := fun b hb hlb => by
              rcases HNr.out with h' | ⟨b', h', hb'⟩
              · exact h'.symm.trans hb
              · rw [h'] at hb; cases hb; have := HSN.out; omega
            have HU2 := Lib.hid (upd_then HUr.out hu2 hxr)
            have HX2 := Lib.hid (HXr.out.upd hu2 fun hb => by
              rcases HNr.out with h' | ⟨b', h', hb'⟩
              · have := HVA.out _ (h'.symm.trans hb); have := this.2; omega
              · rw [h'] at hb; cases hb; have := HSN.out; omega)
            clear ho2 hu2 hn2 hxr HC e0 e1 e2 e3 e4 e5 z0 z1 z2 z3 z4 z5 g0 g1 g2 g3 g4 g5
            go_wp2_with fail
            go_roundw
            case rel => exact ⟨i + 1, _, by omega, rfl, by go_num, HO2, HU2, HN2, HX2⟩
            case measure => simp [intOf]; omega
          · have HEND := Lib.hid (show RuP w0 w v (usBs l1 q) (.returned v0) wr from ⟨_, rfl, by have h := HOr.out; rw [List.take_of_length_le (by omega)] at h; exact h, HUr.out, by
              rcases HNr.out with h' | ⟨b', h', hb'⟩
              · exact .inl h'
              · exact .inr ⟨b', h', by have := HSN.out; omega⟩⟩)
            go_wp2_with fail
            go_ret
            exact HEND.out
    · have hki : (k == 1) = false := by simp; omega
      have hl : l = l1 := by rw [← HL1.out]; unfold usN; rw [if_neg (fun h => hk h.1)]
      have H1 := Lib.hid (show wn.ownsRow w0.heap.size 9 1 v (usBs l1 (q.take 0)).length ((usBs l1 (q.take 0)).map strV) from by rw [List.take_zero, usBs_nil, ← hl]; exact HO.out)
      have HU1 := Lib.hid (Upd.of_below HBN.out (fun b => v.ownBlock = some b)); have HNV1 : Hid (NewV wn v v) := Lib.hid (.inl rfl); have HX1 := HXN
      clear hl
      go_upto_region 1 with fail
      rw [HW.out]
      go_wp2_with fail
      go_loopw [0, 5] (fun va vi wr => ∃ (i : Nat) (v0 : Value), i ≤ q.length ∧ v0 = va ∧ vi = .int .i64 (i : Int) ∧ Hid (wr.ownsRow w0.heap.size 9 1 v0 (usBs l1 (q.take i)).length ((usBs l1 (q.take i)).map strV)) ∧ Hid (Upd (fun b => v.ownBlock = some b) w wr) ∧ Hid (NewV wn v v0) ∧ Hid (Blk wr w.heap.size 26 (nB k a s n A q.length cA B ps.length cB))) (fun _ vi _ => q.length - (intOf vi).toNat)
      case atStart => exact ⟨0, _, by omega, rfl, rfl, H1, HU1, HNV1, HX1⟩
      case round =>
        clear H1 HU1 HNV1 HX1
        (try clear e0 e1 e2 e3 e4 e5 z0 z1 z2 z3 z4 z5)
        obtain ⟨i, v0, hi, rfl, rfl, HOr, HUr, HNr, HXr⟩ := hrel
        obtain ⟨⟨e0, e1, e2, e3, e4, e5⟩, z0, z1, z2, z3, z4, z5⟩ := Blk.c6 HXr.out
        by_cases hlt : i < q.length
        · obtain ⟨x, hx⟩ : ∃ x, q[i]? = some x := ⟨_, List.getElem?_eq_getElem hlt⟩
          have HBr := Lib.hid (HB.out.trans (HUr.out.below HB.out.size fun b hb => (HVA.out b hb).1))
          obtain ⟨b2, o2, k3, a3, s3, n3, A3, la3, cA3, B3, lb3, cB3, rfl, hTx, hb3, g0, g1, g2, g3, g4, g5⟩ := partz_b HBr.out HL.out HS.out hx
          have hul := usBs_len (q.take i) l1
          have hct := cnts_take q i x hx
          have HC := Lib.hid (IH.out x (Nat.lt_of_lt_of_le (size_memz hx) (Nat.le_of_lt_succ HM.out)) w0 _ _ (usBs l1 (q.take i)) k3 a3 s3 n3 A3 la3 cA3 B3 lb3 cB3 hTx HBr.out HOr.out (by have := HLIM.out; have := HUL.out; omega))
          rw [← usBs_take q i x l1 hx] at HC
          clear hTx hx hul hct
          go_wp2_with fail
          refine HC.out.mono ?_
          rintro e w2 ⟨v2, rfl, ho2, hu2, hn2⟩
          have HO2 := Lib.hid ho2
          have HN2 := Lib.hid (show NewV wn v v2 from by
            rcases hn2 with h | ⟨b, h, hb⟩
            · rcases HNr.out with h' | ⟨b, h', hb⟩
              · exact .inl (h.trans h')
              · exact .inr ⟨b, h.trans h', hb⟩
            · exact .inr ⟨b, h, by have := HUr.out.size; have := HXr.out.lt; have := HSN.out; omega⟩)
          have hxr : ∀ b, v0.ownBlock = some b → b < w.heap.size → v.ownBlock = some b := fun b hb hlb => by
            rcases HNr.out with h' | ⟨b', h', hb'⟩
            · exact h'.symm.trans hb
            · rw [h'] at hb; cases hb; have := HSN.out; omega
          have HU2 := Lib.hid (upd_then HUr.out hu2 hxr)
          have HX2 := Lib.hid (HXr.out.upd hu2 fun hb => by
            rcases HNr.out with h' | ⟨b', h', hb'⟩
            · have := HVA.out _ (h'.symm.trans hb); have := this.2; omega
            · rw [h'] at hb; cases hb; have := HSN.out; omega)
          clear ho2 hu2 hn2 hxr HC e0 e1 e2 e3 e4 e5 z0 z1 z2 z3 z4 z5 g0 g1 g2 g3 g4 g5
          go_wp2_with fail
          go_roundw
          case rel => exact ⟨i + 1, _, by omega, rfl, by go_num, HO2, HU2, HN2, HX2⟩
          case measure => simp [intOf]; omega
        · have HEND := Lib.hid (show RuP w0 w v (usBs l1 q) (.returned v0) wr from ⟨_, rfl, by have h := HOr.out; rw [List.take_of_length_le (by omega)] at h; exact h, HUr.out, by
            rcases HNr.out with h' | ⟨b', h', hb'⟩
            · exact .inl h'
            · exact .inr ⟨b', h', by have := HSN.out; omega⟩⟩)
          go_wp2_with fail
          go_ret
          exact HEND.out
end Go.Proofs.YtpoepignpdfleaaGreatDoor.Nm
/- DERIVED. The walk of NamesUses. By an AI agent. -/
namespace Go.Proofs.YtpoepignpdfleaaGreatDoor.Nm
open Go Go.ChangeShapes Go.WideShapes Go.ChangeAt Go.RowKit Lx Args Pa Sh
set_option linter.unusedVariables false
set_option linter.unusedSimpArgs false
theorem lies_ownV {w : World} {base : Nat} {e : TypeId} {size n : Nat} {v : Value} {xs : List Value} (h : w.ownsRow base e size v n xs) : ∃ A c, v = .slice A n c ∧ Lies w A xs := by
  obtain ⟨A, c, rfl⟩ := own_sl h
  exact ⟨A, c, rfl, lies_own h⟩
/-- Names of two lists that lie there. -/
theorem names_ (ps qs : List Bs) (w : World) (v u : Value) (lo lo' : Nat) (hv : w.ownsRow lo 9 1 v ps.length (ps.map strV)) (hu : w.ownsRow lo' 9 1 u qs.length (qs.map strV)) (hl : ps.length ≤ maxLen) (hl' : qs.length ≤ maxLen) :
    Calls Tryz.prog 12 #[v, u] w fun e w' => e = .returned (.bool (ps == qs)) ∧ Below w.heap.size w w' := by
  obtain ⟨A, c, rfl, hA⟩ := lies_ownV hv
  obtain ⟨B, d, rfl, hB⟩ := lies_ownV hu
  exact rnamesB A B c d ps qs w hA hB hl hl'
set_option maxRecDepth 100000 in
set_option maxHeartbeats 4000000 in
theorem walkU (W : World) (z : Tz) (cs : List Value) (hT : TIc True W z cs) (hlz : lenz z) : Calls Tryz.prog 4 #[.agg cs.toArray] W fun e W' => e = .returned (.bool true) ∧ Below W.heap.size W W' := by
  obtain ⟨k, a, s, n, A, la, cA, B, lb, cB, rfl⟩ := tIz_cells hT
  replace hT : TIz W z (nzC k a s n A la cA B lb cB) := tIz_weak hT
  show Calls Tryz.prog 4 #[nzA k a s n A la cA B lb cB] W _
  obtain ⟨w1, hw1, hb1, hX1, hs1⟩ := a_box W (nB k a s n A la cA B lb cB)
  have HSM := Lib.hid (small z w1 k a s n A la cA B lb cB (TIz.below hb1 hT))
  obtain ⟨r, hr⟩ : ∃ r : Bool, decide (pa 300 3000 z ≤ 3000) = r := ⟨_, rfl⟩
  rw [hr] at HSM
  have HR := Lib.hid hr; have HX1 := Lib.hid hX1; have HB1 := Lib.hid hb1; have HW := Lib.hid hw1; have HTT := Lib.hid hT; have HLZ := Lib.hid hlz
  obtain ⟨⟨e0, e1, e2, e3, e4, e5⟩, z0, z1, z2, z3, z4, z5⟩ := Blk.c6 hX1
  clear hr hX1 hb1 hw1 hT hlz hs1
  have hlt1 := HX1.out.lt
  go_enter Tryz.func4, Tryz.ntmps4
  go_upto_region 1 with fail
  rw [HW.out]
  go_wp2_with fail
  refine (show Calls Tryz.prog 11 #[nzA k a s n A la cA B lb cB] w1 _ from HSM.out).mono ?_
  rintro e w2 ⟨rfl, hb2⟩
  have HB2 := Lib.hid (HB1.out.trans (hb2.mono HB1.out.size))
  have HX2 := Lib.hid (HX1.out.below hb2 HX1.out.lt)
  clear hb2 e0 e1 e2 e3 e4 e5 z0 z1 z2 z3 z4 z5
  cases r with
  | false =>
    have HLI := Lib.hid (lives w2)
    go_wp2_with fail
    refine HLI.out.mono ?_
    rintro e w3 ⟨rfl, hb3⟩
    have HB3 := Lib.hid (HB2.out.trans (hb3.mono HB2.out.size))
    clear hb3
    go_wp2_with fail
    go_ret
    exact ⟨rfl, HB3.out⟩
  | true =>
    have hpa : pa 300 3000 z ≤ 3000 := of_decide_eq_true HR.out
    have hcn : cntz z ≤ 3000 := ((small_iff z 300 3000).1 hpa).1
    have hlen : (usB [] z).length ≤ 3000 := by have := usB_len z []; simp only [List.length_nil] at this; omega
    have hdr : Below w2.heap.size w2 w2.drew := Below.drew (Below.refl _ _)
    obtain ⟨wz, hwd⟩ : ∃ v, w2.drew = v := ⟨_, rfl⟩
    rw [hwd] at hdr
    have HBz := Lib.hid (HB2.out.trans (hdr.mono HB2.out.size)); have HXz := Lib.hid (HX2.out.below hdr HX2.out.lt)
    have hZ0 : Below wz.heap.size wz wz := Below.refl _ _
    have HCN := Lib.hid hcn; have HLEN := Lib.hid hlen
    clear hpa hcn hlen hdr
    go_wp2_with fail
    refine HT.wp_region (Z := fun w' => Below wz.heap.size wz w') (S := fun _ => True) (st := []) (by kernel_rfl) ?_
    rw [hwd]
    clear hwd
    refine HT.takeP (i := 0) (v := ?_) rfl (by kernel_rfl) (by kernel_rfl) (by kernel_rfl) (by kernel_rfl) (fun _ _ _ h => h) (Or.inl ⟨by rfl, ?_⟩) hZ0 (fun _ => trivial) ?_
    rotate_left
    · (intro v hSw; have hA := HXz.out.below hSw HXz.out.lt; obtain ⟨⟨e0, e1, e2, e3, e4, e5⟩, z0, z1, z2, z3, z4, z5⟩ := Blk.c6 hA; clear hSw hA; go_simp; try with_reducible rfl)
    (try simp only [Act.put, List.getElem_toArray, List.getElem_cons_succ, List.getElem_cons_zero, List.setIfInBounds_toArray, List.set_cons_zero, List.set_cons_succ])
    refine HT.takeP (i := 2) (v := ?_) rfl (by kernel_rfl) (by kernel_rfl) (by kernel_rfl) (by kernel_rfl) (fun _ _ _ h => h) (Or.inl ⟨by rfl, ?_⟩) hZ0 (fun _ => trivial) ?_
    rotate_left
    · (intro v hSw; have hA := HXz.out.below hSw HXz.out.lt; obtain ⟨⟨e0, e1, e2, e3, e4, e5⟩, z0, z1, z2, z3, z4, z5⟩ := Blk.c6 hA; clear hSw hA; go_simp; try with_reducible rfl)
    (try simp only [Act.put, List.getElem_toArray, List.getElem_cons_succ, List.getElem_cons_zero, List.setIfInBounds_toArray, List.set_cons_zero, List.set_cons_succ])
    have HUS := Lib.hid (uses z HLZ.out (by have := HCN.out; omega) wz k a s n A la cA B lb cB (TIz.below HBz.out HTT.out))
    refine HT.one (i := 1) (by kernel_rfl) rfl (fun K hK => ?_)
    go_simp
    refine (show Calls Tryz.prog 13 #[nzA k a s n A la cA B lb cB] wz _ from HUS.out).mono ?_
    rintro e w3 ⟨v3, rfl, ho3, hb3⟩
    have HO3 := Lib.hid ho3
    clear ho3
    (try dsimp only)
    refine hK.out _ _ hb3 trivial ?_
    clear hK K
    (try simp only [Act.put, List.getElem_toArray, List.getElem_cons_succ, List.getElem_cons_zero, List.setIfInBounds_toArray, List.set_cons_zero, List.set_cons_succ])
    have hb03 := HBz.out.trans (hb3.mono HBz.out.size)
    have HRU := Lib.hid (ruses (SizeOf.sizeOf z + 1) z (Nat.lt_succ_self _) w3 w3 (.slice none 0 0) [] k a s n A la cA B lb cB (TIz.below hb03 HTT.out) (Below.refl _ _) (World.ownsRow_nil _ _ _ _) (by have := HCN.out; simp only [List.length_nil]; omega))
    refine HT.one (i := 3) (by kernel_rfl) rfl (fun K hK => ?_)
    go_simp
    refine (show Calls Tryz.prog 14 #[.slice none 0 0, nzA k a s n A la cA B lb cB] w3 _ from HRU.out).mono ?_
    rintro e w4 ⟨v4, rfl, ho4, hu4, hn4⟩
    have hb34 : Below w3.heap.size w3 w4 := hu4.below (Nat.le_refl _) fun b hb => by cases hb
    have hb4 := hb3.trans (hb34.mono hb3.size)
    have HO4 := Lib.hid ho4
    have HO34 := Lib.hid (own_updV HO3.out hu4 fun b hb h => by cases h)
    clear ho4 hu4 hn4
    (try dsimp only)
    refine hK.out _ _ hb4 trivial ?_
    clear hK K
    (try simp only [Act.put, List.getElem_toArray, List.getElem_cons_succ, List.getElem_cons_zero, List.setIfInBounds_toArray, List.set_cons_zero, List.set_cons_succ])
    have hnm := names_ (usB [] z) (usB [] z) w4 v3 v4 _ _ HO34.out HO4.out (by have := HLEN.out; unfold maxLen; omega) (by have := HLEN.out; unfold maxLen; omega)
    rw [show (usB [] z == usB [] z) = true by simp] at hnm
    have HNM := Lib.hid hnm
    clear hnm
    refine HT.one (i := 4) (by kernel_rfl) rfl (fun K hK => ?_)
    go_simp
    refine HNM.out.mono ?_
    rintro e w5 ⟨rfl, hb45⟩
    have hb5 := hb4.trans (hb45.mono hb4.size)
    (try dsimp only)
    refine hK.out _ _ hb5 trivial ?_
    clear hK K
    (try simp only [Act.put, List.getElem_toArray, List.getElem_cons_succ, List.getElem_cons_zero, List.setIfInBounds_toArray, List.set_cons_zero, List.set_cons_succ])
    refine HT.takeP (i := 5) (v := ?_) rfl (by kernel_rfl) (by kernel_rfl) (by kernel_rfl) (by kernel_rfl) (fun _ _ _ h => h) (Or.inl ⟨by rfl, ?_⟩) hb5 (fun _ => trivial) ?_
    rotate_left
    · (intro v hSw; clear hSw; go_simp; try with_reducible rfl)
    (try simp only [Act.put, List.getElem_toArray, List.getElem_cons_succ, List.getElem_cons_zero, List.setIfInBounds_toArray, List.set_cons_zero, List.set_cons_succ])
    have HLI := Lib.hid (lives w5)
    refine HT.one (i := 6) (by kernel_rfl) rfl (fun K hK => ?_)
    go_simp
    refine HLI.out.mono ?_
    rintro e w6 ⟨rfl, hb56⟩
    have hb6 := hb5.trans (hb56.mono hb5.size)
    (try dsimp only)
    refine hK.out _ _ hb6 trivial ?_
    clear hK K
    (try simp only [Act.put, List.getElem_toArray, List.getElem_cons_succ, List.getElem_cons_zero, List.setIfInBounds_toArray, List.set_cons_zero, List.set_cons_succ])
    refine HT.takeP (i := 7) (v := ?_) rfl (by kernel_rfl) (by kernel_rfl) (by kernel_rfl) (by kernel_rfl) (fun _ _ _ h => h) (Or.inl ⟨by rfl, ?_⟩) hb6 (fun _ => trivial) ?_
    rotate_left
    · (intro v hSw; clear hSw; go_simp; try with_reducible rfl)
    (try simp only [Act.put, List.getElem_toArray, List.getElem_cons_succ, List.getElem_cons_zero, List.setIfInBounds_toArray, List.set_cons_zero, List.set_cons_succ])
    refine HT.takeP (i := 8) (v := ?_) rfl (by kernel_rfl) (by kernel_rfl) (by kernel_rfl) (by kernel_rfl) (fun _ _ _ h => h) (Or.inl ⟨by rfl, ?_⟩) hb6 (fun _ => trivial) ?_
    rotate_left
    · (intro v hSw; clear hSw; go_simp; try with_reducible rfl)
    (try simp only [Act.put, List.getElem_toArray, List.getElem_cons_succ, List.getElem_cons_zero, List.setIfInBounds_toArray, List.set_cons_zero, List.set_cons_succ])
    refine HT.done (by kernel_rfl) ?_
    have HEND := Lib.hid (HBz.out.trans (hb6.mono HBz.out.size))
    clear hb3 hb03 hb34 hb4 hb45 hb5 hb56 hb6 hZ0
    go_wp2_with fail
    go_ret
    exact ⟨rfl, HEND.out⟩
end Go.Proofs.YtpoepignpdfleaaGreatDoor.Nm
