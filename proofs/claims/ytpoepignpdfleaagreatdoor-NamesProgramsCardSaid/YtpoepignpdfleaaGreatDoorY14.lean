/- DERIVED. LxRes, NmPg. By an AI agent. -/
import Derived.Test.YtpoepignpdfleaaGreatDoorY02
import Derived.Laws.Rows
import Derived.WalkKit
import Derived.Test.YtpoepignpdfleaaGreatDoorY01
import Derived.Test.YtpoepignpdfleaaGreatDoorY13
import Derived.Tactics
import Derived.Tactics2
import Derived.Defers
import Derived.Recover
import Derived.Shelf.Abstract
set_option maxRecDepth 100000
set_option maxHeartbeats 4000000
namespace Go.Proofs.YtpoepignpdfleaaGreatDoor.Args
open Go Go.RowKit
theorem loadVar_plain{P:Program}{w:World}{ty:TypeId}{p:Addr}{v:Value}(ha:(isAgg ty).run P w = .ok false w)(hc:w.cell? p=some v):(loadVar ty p).run P w = .ok v w:=by
 unfold loadVar
 rw [Sem.run_bind,ha]
 simp only [Result.andThen]
 simp [load,Sem.run,hc]
theorem results_ct{fn:Func}{p u:Tmp}{ty:TypeId}(h:fn.results = #[.cell p ty,.tmp u]){P:Program}(tmps:Array Value)(w:World)(g:Nat)(v:Value)
  (hp:tmps.getD p undef = .pointer (some ⟨g,0,none⟩)) (hL:(loadVar ty ⟨g,0,none⟩).run P w = .ok v w) :
  (results fn tmps).run P w = .ok (.tuple #[v,tmps.getD u undef]) w:=by
 have hp':tmps[p]?.getD undef = .pointer (some ⟨g,0,none⟩):=by simpa using hp
 simp [results,h,hp',asAddr,hL]
theorem results_cc{fn:Func}{p q:Tmp}{ty tz:TypeId}(h:fn.results = #[.cell p ty,.cell q tz]){P:Program}(tmps:Array Value)(w:World)(g g2:Nat)(v v2:Value)
  (hp:tmps.getD p undef = .pointer (some ⟨g,0,none⟩)) (hq:tmps.getD q undef = .pointer (some ⟨g2,0,none⟩))
  (hL:(loadVar ty ⟨g,0,none⟩).run P w = .ok v w) (hM:(loadVar tz ⟨g2,0,none⟩).run P w = .ok v2 w) :
  (results fn tmps).run P w = .ok (.tuple #[v,v2]) w:=by
 have hp':tmps[p]?.getD undef = .pointer (some ⟨g,0,none⟩):=by simpa using hp
 have hq':tmps[q]?.getD undef = .pointer (some ⟨g2,0,none⟩):=by simpa using hq
 simp [results,h,hp',hq',asAddr,hL,hM]
theorem results_ccc{fn:Func}{p q r:Tmp}{tx ty tz:TypeId}(h:fn.results = #[.cell p tx,.cell q ty,.cell r tz]){P:Program}(tmps:Array Value)(w:World)(g1 g2 g3:Nat)(v1 v2 v3:Value)
  (hp:tmps.getD p undef = .pointer (some ⟨g1,0,none⟩)) (hq:tmps.getD q undef = .pointer (some ⟨g2,0,none⟩)) (hr:tmps.getD r undef = .pointer (some ⟨g3,0,none⟩))
  (h1:(loadVar tx ⟨g1,0,none⟩).run P w = .ok v1 w) (h2:(loadVar ty ⟨g2,0,none⟩).run P w = .ok v2 w) (h3:(loadVar tz ⟨g3,0,none⟩).run P w = .ok v3 w) :
  (results fn tmps).run P w = .ok (.tuple #[v1,v2,v3]) w:=by
 have hp':tmps[p]?.getD undef = .pointer (some ⟨g1,0,none⟩):=by simpa using hp
 have hq':tmps[q]?.getD undef = .pointer (some ⟨g2,0,none⟩):=by simpa using hq
 have hr':tmps[r]?.getD undef = .pointer (some ⟨g3,0,none⟩):=by simpa using hr
 simp [results,h,hp',hq',hr',asAddr,h1,h2,h3]
end Go.Proofs.YtpoepignpdfleaaGreatDoor.Args
namespace Go.Proofs.YtpoepignpdfleaaGreatDoor.Nm
open Go Go.ChangeShapes Go.WideShapes Go.ChangeAt Go.RowKit Lx Args Pa Sh
set_option linter.unusedVariables false
set_option linter.unusedSimpArgs false
section
theorem catch_idle(p q:Addr)(w:World) :
  CallsD Tryz.prog 36 #[.pointer (some p),.pointer (some q)] .returning w fun e u' w'=>e = .returned (.tuple #[])∧u' = .returning∧w'=w:=by
 have hnil:∀ w:World,(binOp BinOp.neq 20 .nilIface .nilIface).run Tryz.prog w = .ok (.bool false) w:=fun _=>by kernel_rfl
 refine callsD_of_wpS Tryz.func36 rfl fun c₀ cs hu=>?_
 apply wpS_seq
 apply wpS_region
 simp [wpOpsS,go_sem,recoverD,hu,Tryz.ntmps36,Exit.thenS]
 refine wpS_of_wp ?_
 go_wp2_with fail
 cases c₀
 simp_all [bodyPostS,results,Tryz.results36]
theorem fWr0(a:Int)(w:World):(Instr.field 85 (.agg #[.int .i64 a]) 0).run Tryz.prog w = .ok (.int .i64 a) w:=by kernel_rfl
attribute [local go_sem] fWr0
theorem catch_wrong(g:Nat)(a:Int)(w:World){a0 q0:Value}(ha:Blk w g 3 #[a0])(he:Blk w (g+1) 30 #[q0]) :
  CallsD Tryz.prog 36 #[.pointer (some ⟨g,0,none⟩),.pointer (some ⟨g+1,0,none⟩)] (.panicking [{ v:=.iface 85 (.agg #[.int .i64 a]),recovered:=false }]) w fun e u' w'=>e = .returned (.tuple #[]) ∧
   u' = .panicking [{ v:=.iface 85 (.agg #[.int .i64 a]),recovered:=true }]∧Blk w' g 3 #[.int .i64 a]∧Blk w' (g+1) 30 #[.int .i64 120]∧Upd (fun b=>b=g∨b=g+1) w w':=by
 have hne:∀ w:World,(binOp BinOp.neq 20 (.iface 85 (.agg #[.int .i64 a])) .nilIface).run Tryz.prog w = .ok (.bool true) w:=fun _=>by kernel_rfl
 have hta:∀ w:World,(Instr.typeAssert (.iface 85 (.agg #[.int .i64 a])) 20 85 false).run Tryz.prog w = .ok (.agg #[.int .i64 a]) w:=fun _=>by kernel_rfl
 refine callsD_of_wpS Tryz.func36 rfl fun c₀ cs hu=>?_
 apply wpS_seq
 apply wpS_region
 simp [wpOpsS,go_sem,recoverD,hu,Tryz.ntmps36,Exit.thenS]
 refine wpS_of_wp ?_
 simp only [Array.replicate_succ,Array.replicate_zero,List.push_toArray,List.setIfInBounds_toArray,List.set_cons_succ,List.set_cons_zero,List.append_toArray,List.cons_append,List.nil_append]
 have c1:w.cell? ⟨g,0,none⟩=some a0:=ha.cell 0
 have c2:w.cell? ⟨g+1,0,none⟩=some q0:=he.cell 0
 have f1:=ha.frozen 0
 have f2:=he.frozen 0
 have hg01:g≠g+1:=by omega
 have HA:=Hi ((ha.set 0 (.int .i64 a)).far (p:=⟨g+1,0,none⟩) hg01 (.int .i64 120));have HE:=Hi ((he.far (p:=⟨g,0,none⟩) (Ne.symm hg01) (.int .i64 a)).set 0 (.int .i64 120))
 have HU:=Hi (((Upd.refl (fun b=>b=g∨b=g+1) w).setCell (p:=⟨g,0,none⟩) (fun _=>.inl rfl) (.int .i64 a)).setCell (p:=⟨g+1,0,none⟩) (fun _=>.inr rfl) (.int .i64 120))
 clear ha he
 go_wp2_with fail
 exact ⟨rfl,_,rfl,_,results_none rfl _ _ _,rfl,rfl,HA.out,HE.out,HU.out⟩
theorem isAgI(w:World):(isAgg 3).run Tryz.prog w = .ok false w:=Go.Proofs.run_isAgg_plain Tryz.underlying3 rfl w
theorem isAgE(w:World):(isAgg 30).run Tryz.prog w = .ok false w:=Go.Proofs.run_isAgg_plain Tryz.underlying30 rfl w
theorem boxes3(w:World)(cs:Array Value):∃ w0,((w.alloc (.cells cs 26)).alloc (.cells #[.int .i64 0] 3)).alloc (.cells #[.int .i64 0] 30)=w0∧Below w.heap.size w w0∧w0.heap.size=w.heap.size+3 ∧
  Blk w0 w.heap.size 26 cs∧Blk w0 (w.heap.size+1) 3 #[.int .i64 0]∧Blk w0 (w.heap.size+2) 30 #[.int .i64 0]:=by
 refine ⟨_,rfl,(((Below.refl _ _).alloc (Nat.le_refl _) _).alloc (by simp) _).alloc (by simp;omega) _,by simp,((Blk.new _ _ _).alloc _).alloc _,?_,?_⟩
 ·have h:=(Blk.new (w.alloc (.cells cs 26)) 3 #[.int .i64 0]).alloc (.cells #[.int .i64 0] 30)
  have e:(w.alloc (.cells cs 26)).heap.size=w.heap.size+1:=by simp
  rw [e] at h;exact h
 ·have h:=Blk.new ((w.alloc (.cells cs 26)).alloc (.cells #[.int .i64 0] 3)) 30 #[.int .i64 0]
  have e:((w.alloc (.cells cs 26)).alloc (.cells #[.int .i64 0] 3)).heap.size=w.heap.size+2:=by simp
  rw [e] at h;exact h
def PrgP(N:Nat→Prop)(lo:Nat)(w:World)(g:Nat)(r:Rs)(m:Nat)(e:Ending)(w':World):Prop:=
 match r with | .ok c=>e = .returned (.tuple #[.int .i64 0,.int .i64 0])∧CK (New N w) lo w' g c m∧Upd N w w' | .bad a=>e = .returned (.tuple #[.int .i64 a,.int .i64 120])∧Upd N w w'
theorem res2{g:Nat}{a b:Value}{W:World}(hA:Blk W (g+1) 3 #[a])(hE:Blk W (g+2) 30 #[b])(tmps:Array Value)(h4:tmps.getD 4 undef = .pointer (some ⟨g+1,0,none⟩))(h5:tmps.getD 5 undef = .pointer (some ⟨g+2,0,none⟩)) :
  (results Tryz.f25 tmps).run Tryz.prog W = .ok (.tuple #[a,b]) W:=
 results_cc rfl tmps W (g+1) (g+2) a b h4 h5 (loadVar_plain (isAgI W) (hA.cell 0)) (loadVar_plain (isAgE W) (hE.cell 0))
theorem program(w0 w:World)(N:Nat→Prop)(lo g:Nat)(c:St)(m:Nat)(k a:Int)(s:Bs)(n:Nat)(A:Option Addr)(cA:Nat)(B:Option Addr)(lb cB:Nat)(l:List Tz)(css:List (List Value))(hb:Below w0.heap.size w0 w)(hL:Lies w0 A css.flatten)(hS:TsIc True w0 l css)(hl:l.length≤maxLen)
  (hlz:lenzs l) (hN:∀ b,N b→w0.heap.size≤b) (hc:CK N lo w g c m) (hm:m+nbzs l≤1099511627776) :
  Calls Tryz.prog 25 #[.pointer (some ⟨g,0,none⟩),nzA k a s n A l.length cA B lb cB] w (PrgP N lo w g (stBs 0 l c) (m+nbzs l)):=by
 obtain ⟨wn,hwn,hbn,hsn,hXn,hAn,hEn⟩:=boxes3 w (nB k a s n A l.length cA B lb cB)
 have hb0:=hb.trans (hbn.mono hb.size)
 have hC0:=in2_start hc hbn
 have HST:=Hi (statements (statement (SizeOf.sizeOf l+1)) w0 wn (In2 N w wn) lo g c m A cA l css hb0 hL hS hl hlz (fun i x h=>Nat.lt_succ_of_lt (List.sizeOf_lt_of_mem (List.mem_of_getElem? h))) (in2_low (w:=w) hN (Nat.le_trans hb.size hbn.size)) hC0 hm)
 have HU0:=Hi (Upd.of_below hbn N);have HA:=Hi hAn;have HE:=Hi hEn;have HW:=Hi hwn;have HSN:=Hi hsn
 obtain ⟨⟨e0,e1,e2,e3,e4,e5⟩,z0,z1,z2,z3,z4,z5⟩:=Blk.c6 hXn
 have hmf:∀ (fn:Fn) (first cap:Array Value) (w:World),(Instr.makeFunc fn first cap).run Tryz.prog w = .ok (.func fn first cap) w:=fun _ _ _ _=>rfl
 obtain ⟨res,hres⟩:∃ res,stBs 0 l c=res:=⟨_,rfl⟩
 rw [hres] at HST ⊢
 have HNI:=Hi (show ∀ b,w.heap.size≤b→b < w.heap.size+3→¬ In2 N w wn b from fun b h1 h2 h=>by
  rcases h with h | h
  ·have:=h.2;omega
  ·omega)
 obtain ⟨g0,hg0⟩:∃ g0,w.heap.size=g0:=⟨_,rfl⟩
 have HG0:=Hi hg0
 rw [hg0] at HA HE HNI e0 e1 e2 e3 e4 e5 z0 z1 z2 z3 z4 z5
 clear hres hbn hXn hAn hEn hwn hb hL hS hlz hm hN hc hsn hb0 hC0
 go_enter_defers Tryz.func25,Tryz.ntmps25
 go_wp2_with fail
 simp only [Nat.add_assoc,Nat.reduceAdd]
 rw [HW.out]
 refine (show Calls Tryz.prog 37 #[.pointer (some ⟨g,0,none⟩),.slice A l.length cA] wn _ from HST.out).mono ?_
 intro e w1 h1
 clear e0 e1 e2 e3 e4 e5 z0 z1 z2 z3 z4 z5
 cases res with
 | bad a1=>
  obtain ⟨rfl,hu1⟩:=h1
  have hA1:=HA.out.upd hu1 (HNI.out _ (by omega) (by omega))
  have hE1:=HE.out.upd hu1 (HNI.out _ (by omega) (by omega))
  have HU1:=Hi (in2_upd HU0.out hu1 (by have:=HSN.out;omega))
  have HA1:=Hi hA1;have HE1:=Hi hE1
  clear hu1
  go_wp2_with fail
  refine leaves_cons (f:=36) (args:=#[.pointer (some ⟨g0+1,0,none⟩),.pointer (some ⟨g0+2,0,none⟩)]) (by simp) (by simp [go_sem]) ?_
  refine (catch_wrong (g0+1) a1 w1 HA1.out HE1.out).mono ?_
  rintro e u' w4 ⟨rfl,rfl,hA4,hE4,hU4⟩
  exact ⟨_,res2 hA4 hE4 _ rfl rfl,rfl,upd_then HU1.out hU4 fun b hb hlt=>by have:=HG0.out;omega⟩
 | ok d=>
  obtain ⟨rfl,hc1,hu1⟩:=h1
  have hA1:=HA.out.upd hu1 (HNI.out _ (by omega) (by omega))
  have hE1:=HE.out.upd hu1 (HNI.out _ (by omega) (by omega))
  have HU1:=Hi (in2_upd HU0.out hu1 (by have:=HSN.out;omega));have HC1:=Hi (in2_new hc1 (Nat.le_refl _))
  have c1:w1.cell? ⟨g0+1,0,none⟩=some (.int .i64 0):=hA1.cell 0
  have c2:w1.cell? ⟨g0+2,0,none⟩=some (.int .i64 0):=hE1.cell 0
  have f1:=hA1.frozen 0
  have f2:=hE1.frozen 0
  have hg12:g0+1≠g0+2:=by omega
  have HA2:=Hi (show Blk _ (g0+1) 3 #[.int .i64 0] from (hA1.set 0 (.int .i64 0)).far (p:=⟨g0+2,0,none⟩) hg12 (.int .i64 0));have HE2:=Hi (show Blk _ (g0+2) 30 #[.int .i64 0] from (hE1.far (p:=⟨g0+1,0,none⟩) (Ne.symm hg12) (.int .i64 0)).set 0 (.int .i64 0))
  have hu2:=((Upd.refl (fun b=>b=g0+1∨b=g0+2) w1).setCell (p:=⟨g0+1,0,none⟩) (fun _=>.inl rfl) (.int .i64 0)).setCell (p:=⟨g0+2,0,none⟩) (fun _=>.inr rfl) (.int .i64 0)
  have HC2:=Hi (in2_out (HC1.out.far hu2 fun b hb h=>by rcases h with h | h <;> exact HNI.out b (by omega) (by omega) hb) (by have:=HSN.out;omega))
  have HU2:=Hi (upd_then HU1.out hu2 fun b hb hlt=>by have:=HG0.out;omega)
  clear hu1 hc1 hA1 hE1 hu2
  go_wp2_with fail
  refine leaves_cons (f:=36) (args:=#[.pointer (some ⟨g0+1,0,none⟩),.pointer (some ⟨g0+2,0,none⟩)]) (by simp) (by simp [go_sem]) ?_
  refine (catch_idle ⟨g0+1,0,none⟩ ⟨g0+2,0,none⟩ _).mono ?_
  rintro e u' w7 ⟨rfl,rfl,rfl⟩
  exact ⟨_,res2 HA2.out HE2.out _ rfl rfl,rfl,HC2.out,HU2.out⟩
end
end Go.Proofs.YtpoepignpdfleaaGreatDoor.Nm
