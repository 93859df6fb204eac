/- DERIVED. PaPg in one text. By an AI agent. -/
import Derived.Test.YtkdpndoollbggaaDoorZ25
/- DERIVED. The contract of package parse's program. By an AI agent. -/
namespace Go.Proofs.YtkdpndoollbggaaDoor.Pa
open Go Go.ChangeShapes Go.WideShapes Go.ChangeAt Go.RowKit Lx Args
set_option linter.unusedVariables false
set_option linter.unusedSimpArgs false
attribute [local go_sem] fTk0 fTk1 fTk2
theorem ArrT.none (e : TypeId) {lo : Nat} (w1 : World) (hlo : lo ≤ w1.heap.size) : ArrT e lo (w1.alloc (.cells #[] e)) w1.heap.size 0 [] :=
  ⟨[], own_full w1 hlo e 6 0 [] rfl (by decide), by unfold TsIn; rfl⟩
/-- A program's node, and the end; or the error. -/
def ProgR (l : List Tk) : Out → Prop
  | .ok xs r => ∃ zs a, xs = [.mk 13 a [] 0 [] zs] ∧ Rd numV (.stmts []) 0 l (.ok zs r) ∧ ∃ e r', r = e :: r' ∧ e.k = 0
  | .bad a e => Rd numV (.stmts []) 0 l (.bad a e)
abbrev tX : Tk := ⟨0, [], 0⟩
/-- Between two statements. -/
structure PgI (w : World) (bp : Nat) (l : List Tk) (zs : List Tr) (l' : List Tk) (g c : Nat) (W : World) : Prop where
  rd : ∀ o, Rd numV (.stmts zs) 0 l' o → Rd numV (.stmts []) 0 l o
  ps : PS W bp l' 0
  gt : Gt l'
  lt : l'.length ≤ l.length
  arr : ArrT 27 (w.heap.size + 1) W g c zs
  few : zs.length + l'.length ≤ 4000
  ub : UB bp w W
  res : Blk W w.heap.size 27 #[.int .i64 0, .string ⟨#[]⟩, .int .u32 0, .int .i64 0, .slice none 0 0, .slice none 0 0]
set_option maxRecDepth 100000 in
set_option maxHeartbeats 8000000 in
theorem program (w : World) (bp : Nat) (l : List Tk) (hp : PS w bp l 0) (hg : Gt l) :
    Calls Tryd.prog 12 #[.pointer (some ⟨bp, 0, none⟩)] w (OutP w bp 0 (tX :: l) (ProgR l)) := by
  have hlt := hp.lt
  have hfw := hg.few
  obtain ⟨i0, hi, hz⟩ := Option.map_eq_some_iff.1 infoNd
  have hz0 := congrArg (·.1) hz; have hz1 := congrArg (·.2.1) hz; have hz2 := congrArg (·.2.2) hz
  have HI := Lib.hid hi; have HZ0 := Lib.hid hz0; have HZ1 := Lib.hid hz1; have HZ2 := Lib.hid hz2
  clear hi hz hz0 hz1 hz2
  obtain ⟨t, r, rfl⟩ := hg.cons
  obtain ⟨w0, hw0⟩ : ∃ w0, w.alloc (.cells #[.int .i64 0, .string ⟨#[]⟩, .int .u32 0, .int .i64 0, .slice none 0 0, .slice none 0 0] 27) = w0 := ⟨_, rfl⟩
  have hb0 : Below w.heap.size w w0 := by rw [← hw0]; exact (Below.refl _ _).alloc (Nat.le_refl _) _
  have hB : Blk w0 w.heap.size 27 #[.int .i64 0, .string ⟨#[]⟩, .int .u32 0, .int .i64 0, .slice none 0 0, .slice none 0 0] := by rw [← hw0]; exact Blk.new _ _ _
  have HN := Lib.hid (next w0 bp 0 t r (hp.below hb0))
  have HP0 := Lib.hid (hp.below hb0); have HG := Lib.hid hg
  have HU0 := Lib.hid (below_UB (bp := bp) hb0); have HB := Lib.hid hB; have HW := Lib.hid hw0
  have hlb := hB.lt
  clear hb0 hp hw0 hB hg
  go_enter Tryd.func12, Tryd.ntmps12
  go_wp2_with fail
  rw [HW.out]
  refine HN.out.mono ?_
  rintro e w1 ⟨rfl, hb1⟩
  have h01 := hb1.size
  have HJ : Hid (PgI w bp (t :: r) [] (t :: r) w1.heap.size 0 (w1.alloc (.cells #[] 27))) := Lib.hid ⟨fun o h => h, (HP0.out.below hb1).below ((Below.refl _ _).alloc (Nat.le_refl _) _), HG.out, Nat.le_refl _, ArrT.none 27 w1 (by omega), by simpa using hfw, (HU0.out.trans (below_UB hb1)).alloc _, (HB.out.below hb1 HB.out.lt).alloc _⟩
  clear hb1 HN HP0
  go_wp2_with fail
  go_loopw [4] (fun vl wr => ∃ zs l' g c, vl = .slice (some ⟨g, 0, none⟩) zs.length c ∧ Hid (PgI w bp (t :: r) zs l' g c wr)) (fun _ wr => lenAt wr bp)
  case atStart => exact ⟨[], t :: r, _, _, rfl, HJ⟩
  case round =>
    clear HJ
    obtain ⟨zs, l', g, c, rfl, HH⟩ := hrel
    obtain ⟨t', r', rfl⟩ := HH.out.gt.cons
    have HNX := Lib.hid (next wr bp 0 t' r' HH.out.ps)
    by_cases hk : t'.k = 0
    · have hq : ((t'.k : Int) != 0) = false := by simp; omega
      go_wp2_with fail
      refine HNX.out.mono ?_
      rintro e w2 ⟨rfl, hb2⟩
      have HNO := Lib.hid (show Calls Tryd.prog 26 #[.int .i64 13, .string ⟨#[]⟩, .int .i64 (t.at_ : Int), .slice (some ⟨g, 0, none⟩) zs.length c] w2 _ from node w2 13 t.at_ [] (some ⟨g, 0, none⟩) zs.length c)
      have HB2 := Lib.hid hb2
      clear hb2 HNX
      go_wp2_with fail
      refine HNO.out.mono ?_
      rintro e w3 ⟨rfl, hb3⟩
      have hb3' := HB2.out.trans (hb3.mono HB2.out.size)
      have hX := HH.out.res.below hb3' HH.out.res.lt
      obtain ⟨⟨e0, e1, e2, e3, e4, e5⟩, z0, z1, z2, z3, z4, z5⟩ := Blk.c6 hX
      have HX3 := Lib.hid hX; have HB3 := Lib.hid hb3'
      clear hX hb3 hb3'
      have hfz := HH.out.few
      have hle := HH.out.lt
      simp only [List.length_cons] at hfz hle
      have HT3 := Lib.hid (TIn.far (HH.out.arr.node (by omega) 13 t.at_ 0 []) (Upd.of_below HB3.out fun _ => False) (fun _ h => h.elim))
      go_wp2_with fail
      exact bodyPost_ret (resNd rfl rfl (Blk.put6 HX3.out _ _ _ _ _ _) rfl) rfl (out_ok hlt (Nat.lt_succ_self _) HT3.out (show ProgR (t :: r) (.ok [.mk 13 t.at_ [] 0 [] zs] (t' :: r')) from ⟨zs, t.at_, rfl, HH.out.rd _ (r_stmts_end hk), t', r', rfl, hk⟩) (HH.out.ps.below HB3.out) HH.out.gt (by simp only [List.length_cons]; omega) (HH.out.ub.trans (below_UB HB3.out)))
    · have hq : ((t'.k : Int) != 0) = true := by simp; omega
      have HST := Lib.hid fun (w' : World) (hb : Below wr.heap.size wr w') => statement w' bp t' r' (HH.out.ps.below hb) HH.out.gt
      go_wp2_with fail
      refine HNX.out.mono ?_
      rintro e w10 ⟨rfl, hb10⟩
      have HW10 := Lib.hid (HST.out w10 hb10)
      have HB10 := Lib.hid hb10
      clear hb10 HST HNX
      go_wp2_with fail
      refine HW10.out.mono ?_
      rintro e w11 (⟨k', a', s', m', A2, la2, cA2, B2, lb2, cB2, x', r11, rfl, hT, hR, hP, hG, hr, hU⟩ | ⟨a', er, rfl, hR, hU⟩)
      rotate_left
      · have HR := Lib.hid (HH.out.rd _ (r_stmts_bad hk hR)); have HU11 := Lib.hid ((HH.out.ub.trans (below_UB HB10.out)).trans hU)
        clear hR hU
        go_wp2_with fail
        exact ⟨rfl, .inr ⟨_, _, rfl, HR.out, HU11.out⟩⟩
      obtain ⟨css, how, hts⟩ := HH.out.arr
      have hu11 : UB bp wr w11 := (below_UB HB10.out).trans hU
      have hT11 : TIn (fun b => wr.heap.size ≤ b) w11 x' (ndC k' a' s' m' A2 la2 cA2 B2 lb2 cB2) := hT.up HB10.out.size
      have HOA := Lib.hid (World.ownsRow.alloc (own_upd3 how hu11 (by have := (own_at how).1; omega)) (.cells #[.int .i64 (k' : Int), .string ⟨s'.toArray⟩, .int .u32 (m' : Int), .int .i64 (a' : Int), .slice A2 la2 cA2, .slice B2 lb2 cB2] 27))
      have HLI := Lib.hid (lies_full w11 27 (ndC k' a' s' m' A2 la2 cA2 B2 lb2 cB2))
      have hsz : w.heap.size + 1 ≤ w11.heap.size := by have := HH.out.res.lt; have := hu11.size; omega
      have HBS := Lib.hid (show w.heap.size + 1 ≤ (w11.alloc (.cells #[.int .i64 (k' : Int), .string ⟨s'.toArray⟩, .int .u32 (m' : Int), .int .i64 (a' : Int), .slice A2 la2 cA2, .slice B2 lb2 cB2] 27)).heap.size by simp; omega)
      have hfew := HH.out.few
      have hle := HH.out.lt
      simp only [List.length_cons] at hfew hle hr
      have HOW := Lib.hid how; have HTS := Lib.hid hts; have HU11 := Lib.hid hu11; have HT11 := Lib.hid hT11; have HR11 := Lib.hid hR; have HP11 := Lib.hid hP; have HG11 := Lib.hid hG
      clear how hts hu11 hT11 hT hR hP hG hU hsz
      go_wp2_with (at_builtin; refine wpList_where rfl _ _ 24 rfl (w.heap.size + 1) 27 i0 (.agg #[.int .i64 0, .string ⟨#[]⟩, .int .u32 0, .int .i64 0, .slice none 0 0, .slice none 0 0]) 6 88 Tryd.underlying24 HI.out HZ0.out HZ1.out HZ2.out rfl (by decide) _ zs.length _ rfl HOA.out ⟨w11.heap.size, 0, none⟩ 1 1 (ndC k' a' s' m' A2 la2 cA2 B2 lb2 cB2) rfl rfl HLI.out (by simp [ndC, Value.oneCell']) (by unfold maxLen; omega) (by omega) HBS.out (by decide) ?_; intro g8 c8 w12 hE; have HE8 := Lib.hid hE; clear hE)
      have HSP := Lib.hid (arr_step HOW.out HTS.out (by omega) HU11.out HT11.out HE8.out)
      have hgw := (own_at HOW.out).1
      have HJ8 : Hid (PgI w bp (t :: r) (zs ++ [x']) r11 g8 c8 w12) := Lib.hid ⟨fun o h => HH.out.rd o (r_stmts hk HR11.out h), HP11.out.far HSP.out.2.2 fun b hb => by omega, HG11.out, by simp only [List.length_cons]; omega, HSP.out.1, by simp; omega, HSP.out.2.1 w (by omega) HH.out.ub, (HH.out.res.upd HU11.out (by omega)).upd HSP.out.2.2 (by omega)⟩
      go_roundw
      case rel => exact ⟨zs ++ [x'], r11, g8, c8, by rw [List.length_append]; rfl, HJ8⟩
      case measure =>
        rw [PS.len HJ8.out.ps, PS.len HH.out.ps]
        simp only [List.length_cons]; omega
end Go.Proofs.YtkdpndoollbggaaDoor.Pa
