/- DERIVED. PaPg, PaDf in one text. By an AI agent. -/
import Derived.Test.YtpoepignpdfleaaGreatDoorZ30
import Derived.Tactics
import Derived.Tactics2
import Derived.Defers
import Derived.Recover
/- DERIVED. The contract of package parse's program. By an AI agent. -/
namespace Go.Proofs.YtpoepignpdfleaaGreatDoor.Pa
open Go Go.ChangeShapes Go.WideShapes Go.ChangeAt Go.RowKit Lx Args
set_option linter.unusedVariables false
set_option linter.unusedSimpArgs false
attribute [local go_sem] fTk0 fTk1 fTk2
theorem ArrT.none (e : TypeId) {lo : Nat} (w1 : World) (hlo : lo ≤ w1.heap.size) : ArrT e lo (w1.alloc (.cells #[] e)) w1.heap.size 0 [] :=
  ⟨[], own_full w1 hlo e 6 0 [] rfl (by decide), by unfold TsIn; rfl⟩
/-- Where tokens begin. -/
def hdA : List Tk → Nat
  | [] => 0
  | t :: _ => t.at_
/-- A program's node, and the end; or the error. -/
def ProgR (l : List Tk) : Out → Prop
  | .ok xs r => ∃ zs, xs = [.mk 13 (hdA l) [] 0 [] zs] ∧ Rd numV (.stmts []) 0 l (.ok zs r) ∧ ∃ e r', r = e :: r' ∧ e.k = 0
  | .bad a e => Rd numV (.stmts []) 0 l (.bad a e)
abbrev tX : Tk := ⟨0, [], 0⟩
/-- Between two statements. -/
structure PgI (w : World) (bp : Nat) (l : List Tk) (zs : List Tr) (l' : List Tk) (g c : Nat) (W : World) : Prop where
  rd : ∀ o, Rd numV (.stmts zs) 0 l' o → Rd numV (.stmts []) 0 l o
  ps : PS W bp l' 0
  gt : Gt l'
  lt : l'.length ≤ l.length
  arr : ArrT 26 (w.heap.size + 1) W g c zs
  few : zs.length + l'.length ≤ 4000
  ub : UB bp w W
  res : Blk W w.heap.size 26 #[.int .i64 0, .string ⟨#[]⟩, .int .u32 0, .int .i64 0, .slice none 0 0, .slice none 0 0]
set_option maxRecDepth 100000 in
set_option maxHeartbeats 8000000 in
theorem program (w : World) (bp : Nat) (l : List Tk) (hp : PS w bp l 0) (hg : Gt l) :
    Calls Tryz.prog 28 #[.pointer (some ⟨bp, 0, none⟩)] w (OutP w bp 0 (tX :: l) (ProgR l)) := by
  have hlt := hp.lt
  have hfw := hg.few
  obtain ⟨i0, hi, hz⟩ := Option.map_eq_some_iff.1 infoNd
  have hz0 := congrArg (·.1) hz; have hz1 := congrArg (·.2.1) hz; have hz2 := congrArg (·.2.2) hz
  have HI := Lib.hid hi; have HZ0 := Lib.hid hz0; have HZ1 := Lib.hid hz1; have HZ2 := Lib.hid hz2
  clear hi hz hz0 hz1 hz2
  obtain ⟨t, r, rfl⟩ := hg.cons
  obtain ⟨w0, hw0⟩ : ∃ w0, w.alloc (.cells #[.int .i64 0, .string ⟨#[]⟩, .int .u32 0, .int .i64 0, .slice none 0 0, .slice none 0 0] 26) = w0 := ⟨_, rfl⟩
  have hb0 : Below w.heap.size w w0 := by rw [← hw0]; exact (Below.refl _ _).alloc (Nat.le_refl _) _
  have hB : Blk w0 w.heap.size 26 #[.int .i64 0, .string ⟨#[]⟩, .int .u32 0, .int .i64 0, .slice none 0 0, .slice none 0 0] := by rw [← hw0]; exact Blk.new _ _ _
  have HN := Lib.hid (next w0 bp 0 t r (hp.below hb0))
  have HP0 := Lib.hid (hp.below hb0); have HG := Lib.hid hg
  have HU0 := Lib.hid (below_UB (bp := bp) hb0); have HB := Lib.hid hB; have HW := Lib.hid hw0
  have hlb := hB.lt
  clear hb0 hp hw0 hB hg
  go_enter Tryz.func28, Tryz.ntmps28
  go_wp2_with fail
  rw [HW.out]
  refine HN.out.mono ?_
  rintro e w1 ⟨rfl, hb1⟩
  have h01 := hb1.size
  have HJ : Hid (PgI w bp (t :: r) [] (t :: r) w1.heap.size 0 (w1.alloc (.cells #[] 26))) := Lib.hid ⟨fun o h => h, (HP0.out.below hb1).below ((Below.refl _ _).alloc (Nat.le_refl _) _), HG.out, Nat.le_refl _, ArrT.none 26 w1 (by omega), by simpa using hfw, (HU0.out.trans (below_UB hb1)).alloc _, (HB.out.below hb1 HB.out.lt).alloc _⟩
  clear hb1 HN HP0
  go_wp2_with fail
  go_loopw [4] (fun vl wr => ∃ zs l' g c, vl = .slice (some ⟨g, 0, none⟩) zs.length c ∧ Hid (PgI w bp (t :: r) zs l' g c wr)) (fun _ wr => lenAt wr bp)
  case atStart => exact ⟨[], t :: r, _, _, rfl, HJ⟩
  case round =>
    clear HJ
    obtain ⟨zs, l', g, c, rfl, HH⟩ := hrel
    obtain ⟨t', r', rfl⟩ := HH.out.gt.cons
    have HNX := Lib.hid (next wr bp 0 t' r' HH.out.ps)
    by_cases hk : t'.k = 0
    · have hq : ((t'.k : Int) != 0) = false := by simp; omega
      go_wp2_with fail
      refine HNX.out.mono ?_
      rintro e w2 ⟨rfl, hb2⟩
      have HNO := Lib.hid (show Calls Tryz.prog 43 #[.int .i64 13, .string ⟨#[]⟩, .int .i64 (t.at_ : Int), .slice (some ⟨g, 0, none⟩) zs.length c] w2 _ from node w2 13 t.at_ [] (some ⟨g, 0, none⟩) zs.length c)
      have HB2 := Lib.hid hb2
      clear hb2 HNX
      go_wp2_with fail
      refine HNO.out.mono ?_
      rintro e w3 ⟨rfl, hb3⟩
      have hb3' := HB2.out.trans (hb3.mono HB2.out.size)
      have hX := HH.out.res.below hb3' HH.out.res.lt
      obtain ⟨⟨e0, e1, e2, e3, e4, e5⟩, z0, z1, z2, z3, z4, z5⟩ := Blk.c6 hX
      have HX3 := Lib.hid hX; have HB3 := Lib.hid hb3'
      clear hX hb3 hb3'
      have hfz := HH.out.few
      have hle := HH.out.lt
      simp only [List.length_cons] at hfz hle
      have HT3 := Lib.hid (TIn.far (HH.out.arr.node (by omega) 13 t.at_ 0 []) (Upd.of_below HB3.out fun _ => False) (fun _ h => h.elim))
      go_wp2_with fail
      exact bodyPost_ret (resNd rfl rfl (Blk.put6 HX3.out _ _ _ _ _ _) rfl) rfl (out_ok hlt (Nat.lt_succ_self _) HT3.out (show ProgR (t :: r) (.ok [.mk 13 t.at_ [] 0 [] zs] (t' :: r')) from ⟨zs, rfl, HH.out.rd _ (r_stmts_end hk), t', r', rfl, hk⟩) (HH.out.ps.below HB3.out) HH.out.gt (by simp only [List.length_cons]; omega) (HH.out.ub.trans (below_UB HB3.out)))
    · have hq : ((t'.k : Int) != 0) = true := by simp; omega
      have HST := Lib.hid fun (w' : World) (hb : Below wr.heap.size wr w') => statement w' bp t' r' (HH.out.ps.below hb) HH.out.gt
      go_wp2_with fail
      refine HNX.out.mono ?_
      rintro e w10 ⟨rfl, hb10⟩
      have HW10 := Lib.hid (HST.out w10 hb10)
      have HB10 := Lib.hid hb10
      clear hb10 HST HNX
      go_wp2_with fail
      refine HW10.out.mono ?_
      rintro e w11 (⟨k', a', s', m', A2, la2, cA2, B2, lb2, cB2, x', r11, rfl, hT, hR, hP, hG, hr, hU⟩ | ⟨a', er, rfl, hR, hU⟩)
      rotate_left
      · have HR := Lib.hid (HH.out.rd _ (r_stmts_bad hk hR)); have HU11 := Lib.hid ((HH.out.ub.trans (below_UB HB10.out)).trans hU)
        clear hR hU
        go_wp2_with fail
        exact ⟨rfl, .inr ⟨_, _, rfl, HR.out, HU11.out⟩⟩
      obtain ⟨css, how, hts⟩ := HH.out.arr
      have hu11 : UB bp wr w11 := (below_UB HB10.out).trans hU
      have hT11 : TIn (fun b => wr.heap.size ≤ b) w11 x' (ndC k' a' s' m' A2 la2 cA2 B2 lb2 cB2) := hT.up HB10.out.size
      have HOA := Lib.hid (World.ownsRow.alloc (own_upd3 how hu11 (by have := (own_at how).1; omega)) (.cells #[.int .i64 (k' : Int), .string ⟨s'.toArray⟩, .int .u32 (m' : Int), .int .i64 (a' : Int), .slice A2 la2 cA2, .slice B2 lb2 cB2] 26))
      have HLI := Lib.hid (lies_full w11 26 (ndC k' a' s' m' A2 la2 cA2 B2 lb2 cB2))
      have hsz : w.heap.size + 1 ≤ w11.heap.size := by have := HH.out.res.lt; have := hu11.size; omega
      have HBS := Lib.hid (show w.heap.size + 1 ≤ (w11.alloc (.cells #[.int .i64 (k' : Int), .string ⟨s'.toArray⟩, .int .u32 (m' : Int), .int .i64 (a' : Int), .slice A2 la2 cA2, .slice B2 lb2 cB2] 26)).heap.size by simp; omega)
      have hfew := HH.out.few
      have hle := HH.out.lt
      simp only [List.length_cons] at hfew hle hr
      have HOW := Lib.hid how; have HTS := Lib.hid hts; have HU11 := Lib.hid hu11; have HT11 := Lib.hid hT11; have HR11 := Lib.hid hR; have HP11 := Lib.hid hP; have HG11 := Lib.hid hG
      clear how hts hu11 hT11 hT hR hP hG hU hsz
      go_wp2_with (at_builtin; refine wpList_where rfl _ _ 23 rfl (w.heap.size + 1) 26 i0 (.agg #[.int .i64 0, .string ⟨#[]⟩, .int .u32 0, .int .i64 0, .slice none 0 0, .slice none 0 0]) 6 88 Tryz.underlying23 HI.out HZ0.out HZ1.out HZ2.out rfl (by decide) _ zs.length _ rfl HOA.out ⟨w11.heap.size, 0, none⟩ 1 1 (ndC k' a' s' m' A2 la2 cA2 B2 lb2 cB2) rfl rfl HLI.out (by simp [ndC, Value.oneCell']) (by unfold maxLen; omega) (by omega) HBS.out (by decide) ?_; intro g8 c8 w12 hE; have HE8 := Lib.hid hE; clear hE)
      have HSP := Lib.hid (arr_step HOW.out HTS.out (by omega) HU11.out HT11.out HE8.out)
      have hgw := (own_at HOW.out).1
      have HJ8 : Hid (PgI w bp (t :: r) (zs ++ [x']) r11 g8 c8 w12) := Lib.hid ⟨fun o h => HH.out.rd o (r_stmts hk HR11.out h), HP11.out.far HSP.out.2.2 fun b hb => by omega, HG11.out, by simp only [List.length_cons]; omega, HSP.out.1, by simp; omega, HSP.out.2.1 w (by omega) HH.out.ub, (HH.out.res.upd HU11.out (by omega)).upd HSP.out.2.2 (by omega)⟩
      go_roundw
      case rel => exact ⟨zs ++ [x'], r11, g8, c8, by rw [List.length_append]; rfl, HJ8⟩
      case measure =>
        rw [PS.len HJ8.out.ps, PS.len HH.out.ps]
        simp only [List.length_cons]; omega
end Go.Proofs.YtpoepignpdfleaaGreatDoor.Pa
/- DERIVED. What is deferred in package parse's read. By an AI agent. -/
namespace Go.Proofs.YtpoepignpdfleaaGreatDoor.Pa
open Go Go.ChangeShapes Go.WideShapes Go.ChangeAt Go.RowKit Lx Args
set_option linter.unusedVariables false
set_option linter.unusedSimpArgs false
attribute [local go_sem] fTk0 fTk1 fTk2
theorem catch_idle (p q s : Addr) (w : World) :
    CallsD Tryz.prog 39 #[.pointer (some p), .pointer (some q), .pointer (some s)] .returning w fun e u' w' => e = .returned (.tuple #[]) ∧ u' = .returning ∧ w' = w := by
  have hnil : ∀ w : World, (binOp BinOp.neq 20 .nilIface .nilIface).run Tryz.prog w = .ok (.bool false) w := fun _ => by kernel_rfl
  refine callsD_of_wpS Tryz.func39 rfl fun c₀ cs hu => ?_
  apply wpS_seq
  apply wpS_region
  simp [wpOpsS, go_sem, recoverD, hu, Tryz.ntmps39, Exit.thenS]
  refine wpS_of_wp ?_
  go_wp2_with fail
  cases c₀
  simp_all [bodyPostS, results, Tryz.results39]
/-- The box of what was given up with. -/
def KW (g a er : Nat) (w : World) : Prop := w.cell? ⟨g, 0, none⟩ = some (.int .i64 (a : Int)) ∧ w.cell? ⟨g, 1, none⟩ = some (.int .i64 (er : Int))
theorem KW.of {g a er : Nat} {w : World} {t : TypeId} (h : Blk w g t #[.int .i64 (a : Int), .int .i64 (er : Int)]) : KW g a er w := ⟨h.cell 0, h.cell 1⟩
set_option maxRecDepth 100000 in
set_option maxHeartbeats 4000000 in
theorem catch_wrong (g a er : Nat) (w : World) {n0 n1 n2 n3 n4 n5 a0 q0 : Value} (hn : Blk w g 26 #[n0, n1, n2, n3, n4, n5]) (ha : Blk w (g + 1) 3 #[a0]) (he : Blk w (g + 2) 30 #[q0]) :
    CallsD Tryz.prog 39 #[.pointer (some ⟨g, 0, none⟩), .pointer (some ⟨g + 1, 0, none⟩), .pointer (some ⟨g + 2, 0, none⟩)] (.panicking [{ v := .iface 88 (.agg #[.int .i64 (a : Int), .int .i64 (er : Int)]), recovered := false }]) w fun e u' w' => e = .returned (.tuple #[]) ∧
      u' = .panicking [{ v := .iface 88 (.agg #[.int .i64 (a : Int), .int .i64 (er : Int)]), recovered := true }] ∧
      Blk w' g 26 #[.int .i64 0, .string ⟨#[]⟩, .int .u32 0, .int .i64 0, .slice none 0 0, .slice none 0 0] ∧ Blk w' (g + 1) 3 #[.int .i64 (a : Int)] ∧ Blk w' (g + 2) 30 #[.int .i64 (er : Int)] ∧ Upd (fun b => g ≤ b) w w' := by
  have hne : ∀ w : World, (binOp BinOp.neq 20 (.iface 88 (.agg #[.int .i64 (a : Int), .int .i64 (er : Int)])) .nilIface).run Tryz.prog w = .ok (.bool true) w := fun _ => by kernel_rfl
  have hta : ∀ w : World, (Instr.typeAssert (.iface 88 (.agg #[.int .i64 (a : Int), .int .i64 (er : Int)])) 20 88 false).run Tryz.prog w = .ok (.agg #[.int .i64 (a : Int), .int .i64 (er : Int)]) w := fun _ => by kernel_rfl
  refine callsD_of_wpS Tryz.func39 rfl fun c₀ cs hu => ?_
  apply wpS_seq
  apply wpS_region
  simp [wpOpsS, go_sem, recoverD, hu, Tryz.ntmps39, Exit.thenS]
  refine wpS_of_wp ?_
  simp only [Array.replicate_succ, Array.replicate_zero, List.push_toArray, List.setIfInBounds_toArray, List.set_cons_succ, List.set_cons_zero, List.append_toArray, List.cons_append, List.nil_append]
  have HNN := Lib.hid hn; have HAA := Lib.hid ha; have HEE := Lib.hid he
  clear hn ha he
  go_upto_region 3 with fail
  obtain ⟨w1, hw1⟩ : ∃ w1, w.alloc (.cells #[.int .i64 (a : Int), .int .i64 (er : Int)] 88) = w1 := ⟨_, rfl⟩
  have hb1 : Below w.heap.size w w1 := by rw [← hw1]; exact (Below.refl _ _).alloc (Nat.le_refl _) _
  have hbw : Blk w1 w.heap.size 88 #[.int .i64 (a : Int), .int .i64 (er : Int)] := by rw [← hw1]; exact Blk.new _ _ _
  have hg0 := HNN.out.lt
  have hg1 := HAA.out.lt
  have hg2 := HEE.out.lt
  have hN := (HNN.out.below hb1 hg0).drew
  have hA := (HAA.out.below hb1 hg1).drew
  have hE := (HEE.out.below hb1 hg2).drew
  have hZ0 : KW w.heap.size a er w1.drew := KW.of hbw.drew
  have HBW := Lib.hid hbw.drew
  have HU1 := Lib.hid (show Upd (fun b => g ≤ b) w w1.drew from (Upd.of_below hb1 _).drew)
  rw [hw1]
  clear hw1 hb1 hbw
  obtain ⟨w2, hw2⟩ : ∃ w2, w1.drew = w2 := ⟨_, rfl⟩
  refine HT.wp_region (Z := fun w' => KW w.heap.size a er w') (S := fun _ => True) (st := []) (by kernel_rfl) ?_
  rw [hw2] at hN hA hE hZ0 HBW HU1 ⊢
  clear hw2
  refine HT.takeP (i := 0) (v := ?_) rfl (by kernel_rfl) (by kernel_rfl) (by kernel_rfl) (by kernel_rfl) (fun _ _ _ h => h) (Or.inl ⟨by rfl, ?_⟩) hZ0 (fun _ => trivial) ?_
  rotate_left
  · (intro w hSw; obtain ⟨y0, y1⟩ := hSw; go_simp; try with_reducible rfl)
  (try simp only [Act.put, List.getElem_toArray, List.getElem_cons_succ, List.getElem_cons_zero, List.setIfInBounds_toArray, List.set_cons_zero, List.set_cons_succ])
  refine HT.takeP (i := 1) (v := ?_) rfl (by kernel_rfl) (by kernel_rfl) (by kernel_rfl) (by kernel_rfl) (fun _ _ _ h => h) (Or.inl ⟨by rfl, ?_⟩) hZ0 (fun _ => trivial) ?_
  rotate_left
  · (intro w hSw; obtain ⟨y0, y1⟩ := hSw; go_simp; try with_reducible rfl)
  (try simp only [Act.put, List.getElem_toArray, List.getElem_cons_succ, List.getElem_cons_zero, List.setIfInBounds_toArray, List.set_cons_zero, List.set_cons_succ])
  refine HT.takeP (i := 2) (v := ?_) rfl (by kernel_rfl) (by kernel_rfl) (by kernel_rfl) (by kernel_rfl) (fun _ _ _ h => h) (Or.inl ⟨by rfl, ?_⟩) hZ0 (fun _ => trivial) ?_
  rotate_left
  · (intro w hSw; obtain ⟨y0, y1⟩ := hSw; go_simp; try with_reducible rfl)
  (try simp only [Act.put, List.getElem_toArray, List.getElem_cons_succ, List.getElem_cons_zero, List.setIfInBounds_toArray, List.set_cons_zero, List.set_cons_succ])
  refine HT.takeP (i := 3) (v := ?_) rfl (by kernel_rfl) (by kernel_rfl) (by kernel_rfl) (by kernel_rfl) (fun _ _ _ h => h) (Or.inl ⟨by rfl, ?_⟩) hZ0 (fun _ => trivial) ?_
  rotate_left
  · (intro w hSw; obtain ⟨y0, y1⟩ := hSw; go_simp; try with_reducible rfl)
  (try simp only [Act.put, List.getElem_toArray, List.getElem_cons_succ, List.getElem_cons_zero, List.setIfInBounds_toArray, List.set_cons_zero, List.set_cons_succ])
  refine HT.takeP (i := 4) (v := ?_) rfl (by kernel_rfl) (by kernel_rfl) (by kernel_rfl) (by kernel_rfl) (fun _ _ _ h => h) (Or.inl ⟨by rfl, ?_⟩) hZ0 (fun _ => trivial) ?_
  rotate_left
  · (intro w hSw; obtain ⟨y0, y1⟩ := hSw; go_simp; try with_reducible rfl)
  (try simp only [Act.put, List.getElem_toArray, List.getElem_cons_succ, List.getElem_cons_zero, List.setIfInBounds_toArray, List.set_cons_zero, List.set_cons_succ])
  obtain ⟨⟨e0, e1, e2, e3, e4, e5⟩, z0, z1, z2, z3, z4, z5⟩ := Blk.c6 hN
  have c1 : w2.cell? ⟨g + 1, 0, none⟩ = some a0 := hA.cell 0
  have c2 : w2.cell? ⟨g + 2, 0, none⟩ = some q0 := hE.cell 0
  have f1 := hA.frozen 0
  have hgw : w.heap.size ≠ g := by omega
  have hgw1 : w.heap.size ≠ g + 1 := by omega
  have hgw2 : w.heap.size ≠ g + 2 := by omega
  have f2 := hE.frozen 0
  refine HT.one (i := 5) (by kernel_rfl) rfl (fun K hK => ?_)
  go_simp
  refine hK.out _ _ (KW.of (put6_far HBW.out hgw _ _ _ _ _ _)) trivial ?_
  clear hK K
  (try simp only [Act.put, List.getElem_toArray, List.getElem_cons_succ, List.getElem_cons_zero, List.setIfInBounds_toArray, List.set_cons_zero, List.set_cons_succ])
  refine HT.one (i := 6) (by kernel_rfl) rfl (fun K hK => ?_)
  go_simp
  refine hK.out _ _ (KW.of ((put6_far HBW.out hgw _ _ _ _ _ _).far (p := ⟨g + 1, 0, none⟩) hgw1 _)) trivial ?_
  clear hK K
  (try simp only [Act.put, List.getElem_toArray, List.getElem_cons_succ, List.getElem_cons_zero, List.setIfInBounds_toArray, List.set_cons_zero, List.set_cons_succ])
  refine HT.one (i := 7) (by kernel_rfl) rfl (fun K hK => ?_)
  go_simp
  refine hK.out _ _ (KW.of (((put6_far HBW.out hgw _ _ _ _ _ _).far (p := ⟨g + 1, 0, none⟩) hgw1 _).far (p := ⟨g + 2, 0, none⟩) hgw2 _)) trivial ?_
  clear hK K
  refine HT.done (by kernel_rfl) ?_
  (try simp only [Act.put, List.getElem_toArray, List.getElem_cons_succ, List.getElem_cons_zero, List.setIfInBounds_toArray, List.set_cons_zero, List.set_cons_succ])
  have hg01 : g ≠ g + 1 := by omega
  have hg02 : g ≠ g + 2 := by omega
  have hg12 : g + 1 ≠ g + 2 := by omega
  have hNN := ((Blk.put6 hN (.int .i64 0) (.string ⟨#[]⟩) (.int .u32 0) (.int .i64 0) (.slice none 0 0) (.slice none 0 0)).far (p := ⟨g + 1, 0, none⟩) hg01 (.int .i64 (a : Int))).far (p := ⟨g + 2, 0, none⟩) hg02 (.int .i64 (er : Int))
  have hAA : Blk _ (g + 1) 3 #[.int .i64 (a : Int)] := ((put6_far hA (Ne.symm hg01) (.int .i64 0) (.string ⟨#[]⟩) (.int .u32 0) (.int .i64 0) (.slice none 0 0) (.slice none 0 0)).set 0 (.int .i64 (a : Int))).far (p := ⟨g + 2, 0, none⟩) hg12 (.int .i64 (er : Int))
  have hEE : Blk _ (g + 2) 30 #[.int .i64 (er : Int)] := ((put6_far hE (Ne.symm hg02) (.int .i64 0) (.string ⟨#[]⟩) (.int .u32 0) (.int .i64 0) (.slice none 0 0) (.slice none 0 0)).far (p := ⟨g + 1, 0, none⟩) (Ne.symm hg12) (.int .i64 (a : Int))).set 0 (.int .i64 (er : Int))
  have hUU := ((put6_upd HU1.out (fun _ => Nat.le_refl g) (.int .i64 0) (.string ⟨#[]⟩) (.int .u32 0) (.int .i64 0) (.slice none 0 0) (.slice none 0 0)).setCell (p := ⟨g + 1, 0, none⟩) (fun _ => by show g ≤ g + 1; omega) (.int .i64 (a : Int))).setCell (p := ⟨g + 2, 0, none⟩) (fun _ => by show g ≤ g + 2; omega) (.int .i64 (er : Int))
  exact ⟨rfl, _, rfl, _, results_none rfl _ _ _, rfl, rfl, hNN, hAA, hEE, hUU⟩
end Go.Proofs.YtpoepignpdfleaaGreatDoor.Pa
