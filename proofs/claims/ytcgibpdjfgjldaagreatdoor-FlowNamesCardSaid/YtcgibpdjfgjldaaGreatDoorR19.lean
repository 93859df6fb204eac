/- DERIVED. LxRes, NmPg, NmChk. By an AI agent. -/
import Derived.Test.YtcgibpdjfgjldaaGreatDoorR18
import Derived.Tactics
import Derived.Defers
import Derived.Recover
import Derived.Shelf.Abstract
set_option maxRecDepth 100000
set_option maxHeartbeats 4000000
set_option linter.unusedVariables false
set_option linter.unusedSimpArgs false
namespace Go.Proofs.YtcgibpdjfgjldaaGreatDoor
namespace Args
open Go Go.RowKit
theorem q05{P:Program}{w:World}{ty:TypeId}{p:Addr}{v:Value}(ha:(isAgg ty).run P w = .ok false w)(hc:w.cell? p=some v):(loadVar ty p).run P w = .ok v w:=by
 unfold loadVar;rw [Sem.run_bind,ha];simp only [Result.andThen];simp [load,Sem.run,hc]
theorem q36{fn:Func}{p u:Tmp}{ty:TypeId}(h:fn.results = #[.cell p ty,.tmp u]){P:Program}(tmps:Array Value)(w:World)(g:Nat)(v:Value)
  (hp:tmps.getD p undef = .pointer (some ⟨g,0,none⟩)) (hL:(loadVar ty ⟨g,0,none⟩).run P w = .ok v w) :
  (results fn tmps).run P w = .ok (.tuple #[v,tmps.getD u undef]) w:=by
 have hp':tmps[p]?.getD undef = .pointer (some ⟨g,0,none⟩):=VQ;simp [results,h,hp',asAddr,hL]
theorem q1G{fn:Func}{p q:Tmp}{ty tz:TypeId}(h:fn.results = #[.cell p ty,.cell q tz]){P:Program}(tmps:Array Value)(w:World)(g g2:Nat)(v v2:Value)
  (hp:tmps.getD p undef = .pointer (some ⟨g,0,none⟩)) (hq:tmps.getD q undef = .pointer (some ⟨g2,0,none⟩))
  (hL:(loadVar ty ⟨g,0,none⟩).run P w = .ok v w) (hM:(loadVar tz ⟨g2,0,none⟩).run P w = .ok v2 w) :
  (results fn tmps).run P w = .ok (.tuple #[v,v2]) w:=by
 have hp':tmps[p]?.getD undef = .pointer (some ⟨g,0,none⟩):=VQ;have hq':tmps[q]?.getD undef = .pointer (some ⟨g2,0,none⟩):=by simpa using hq
 simp [results,h,hp',hq',asAddr,hL,hM]
theorem q1N{fn:Func}{p q r:Tmp}{tx ty tz:TypeId}(h:fn.results = #[.cell p tx,.cell q ty,.cell r tz]){P:Program}(tmps:Array Value)(w:World)(g1 g2 g3:Nat)(v1 v2 v3:Value)
  (hp:tmps.getD p undef = .pointer (some ⟨g1,0,none⟩)) (hq:tmps.getD q undef = .pointer (some ⟨g2,0,none⟩)) (hr:tmps.getD r undef = .pointer (some ⟨g3,0,none⟩))
  (h1:(loadVar tx ⟨g1,0,none⟩).run P w = .ok v1 w) (h2:(loadVar ty ⟨g2,0,none⟩).run P w = .ok v2 w) (h3:(loadVar tz ⟨g3,0,none⟩).run P w = .ok v3 w) :
  (results fn tmps).run P w = .ok (.tuple #[v1,v2,v3]) w:=by
 have hp':tmps[p]?.getD undef = .pointer (some ⟨g1,0,none⟩):=VQ;have hq':tmps[q]?.getD undef = .pointer (some ⟨g2,0,none⟩):=by simpa using hq
 have hr':tmps[r]?.getD undef = .pointer (some ⟨g3,0,none⟩):=by simpa using hr
 simp [results,h,hp',hq',hr',asAddr,h1,h2,h3]
end Args
namespace Nm
open Go Go.ChangeShapes Go.WideShapes Go.ChangeAt Go.RowKit Lx Args Pa Sh
section
theorem catch_idle(p q:Addr)(w:World) :
  CallsD Tryz.prog 92 #[.pointer (some p),.pointer (some q)] .returning w fun e u' w'=>e = .returned (.tuple #[])/\u' = .returning/\w'=w:=by
 have hnil:∀ w:World,(binOp BinOp.neq 20 .nilIface .nilIface).run Tryz.prog w = .ok (.bool false) w:=fun _=>V1
 refine callsD_of_wpS Tryz.func92 rfl fun c₀ cs hu=>?_
 apply wpS_seq;apply wpS_region;simp [wpOpsS,go_sem,recoverD,hu,Tryz.ntmps92,Exit.thenS];refine wpS_of_wp ?_;go_wp2_with fail
 cases c₀
 simp_all [bodyPostS,results,Tryz.results92]
theorem fWr0(a:Int)(w:World):(Instr.field 152 (.agg #[.int .i64 a]) 0).run Tryz.prog w = .ok (.int .i64 a) w:=V1
attribute [local go_sem] fWr0
theorem catch_wrong(g:Nat)(a:Int)(w:World){a0 q0:Value}(ha:Aa w g 3 #[a0])(he:Aa w (g+1) 27 #[q0]) :
  CallsD Tryz.prog 92 #[.pointer (some ⟨g,0,none⟩),.pointer (some ⟨g+1,0,none⟩)] (.panicking [{ v:=.iface 152 (.agg #[.int .i64 a]),recovered:=false }]) w fun e u' w'=>e = .returned (.tuple #[]) /\
   u' = .panicking [{ v:=.iface 152 (.agg #[.int .i64 a]),recovered:=true }]/\Aa w' g 3 #[.int .i64 a]/\Aa w' (g+1) 27 #[.int .i64 120]/\Upd (fun b=>b=g\/b=g+1) w w':=by
 have hne:∀ w:World,(binOp BinOp.neq 20 (.iface 152 (.agg #[.int .i64 a])) .nilIface).run Tryz.prog w = .ok (.bool true) w:=fun _=>V1
 have hta:∀ w:World,(Instr.typeAssert (.iface 152 (.agg #[.int .i64 a])) 20 152 false).run Tryz.prog w = .ok (.agg #[.int .i64 a]) w:=fun _=>V1
 refine callsD_of_wpS Tryz.func92 rfl fun c₀ cs hu=>?_
 apply wpS_seq;apply wpS_region;simp [wpOpsS,go_sem,recoverD,hu,Tryz.ntmps92,Exit.thenS];refine wpS_of_wp ?_;simp only [Array.replicate_succ,Array.replicate_zero,List.push_toArray,List.setIfInBounds_toArray,List.set_cons_succ,List.set_cons_zero,List.append_toArray,List.cons_append,List.nil_append];have c1:w.cell? ⟨g,0,none⟩=some a0:=ha.cell 0;have c2:w.cell? ⟨g+1,0,none⟩=some q0:=he.cell 0;have f1:=ha.frozen 0;have f2:=he.frozen 0;have hg01:g≠g+1:=V0;have HA:=Hi ((ha.set 0 (.int .i64 a)).far (p:=⟨g+1,0,none⟩) hg01 (.int .i64 120));have HE:=Hi ((he.far (p:=⟨g,0,none⟩) (Ne.symm hg01) (.int .i64 a)).set 0 (.int .i64 120));have HU:=Hi (((Upd.refl (fun b=>b=g\/b=g+1) w).setCell (p:=⟨g,0,none⟩) (fun _=>.inl rfl) (.int .i64 a)).setCell (p:=⟨g+1,0,none⟩) (fun _=>.inr rfl) (.int .i64 120));clear ha he;go_wp2_with fail
 exact ⟨rfl,_,rfl,_,results_none rfl _ _ _,rfl,rfl,HA.out,HE.out,HU.out⟩
theorem isAgI(w:World):(isAgg 3).run Tryz.prog w = .ok false w:=Go.Proofs.run_isAgg_plain Tryz.underlying3 rfl w
theorem isAgE(w:World):(isAgg 27).run Tryz.prog w = .ok false w:=Go.Proofs.run_isAgg_plain Tryz.underlying27 rfl w
theorem boxes3(w:World)(cs:Array Value):∃ w0,((w.alloc (.cells cs 26)).alloc (.cells #[.int .i64 0] 3)).alloc (.cells #[.int .i64 0] 27)=w0/\Below w.heap.size w w0/\w0.heap.size=w.heap.size+3 /\
  Aa w0 w.heap.size 26 cs/\Aa w0 (w.heap.size+1) 3 #[.int .i64 0]/\Aa w0 (w.heap.size+2) 27 #[.int .i64 0]:=by
 refine ⟨_,rfl,(((Below.refl _ _).alloc (Nat.le_refl _) _).alloc V3 _).alloc V4 _,V3,((Aa.new _ _ _).alloc _).alloc _,?_,?_⟩
 ·have h:=(Aa.new (w.alloc (.cells cs 26)) 3 #[.int .i64 0]).alloc (.cells #[.int .i64 0] 27);exact V3Z
 ·have h:=Aa.new ((w.alloc (.cells cs 26)).alloc (.cells #[.int .i64 0] 3)) 27 #[.int .i64 0];have e:((w.alloc (.cells cs 26)).alloc (.cells #[.int .i64 0] 3)).heap.size=w.heap.size+2:=V3;rw [e] at h;exact h
def PrgP(N:Nat->Prop)(lo:Nat)(w:World)(g:Nat)(r:Rs)(m:Nat)(e:Ending)(w':World):Prop:=
 match r with | .ok c=>e = .returned (.tuple #[.int .i64 0,.int .i64 0])/\CK (New N w) lo w' g c m/\Upd N w w' | .bad a=>e = .returned (.tuple #[.int .i64 a,.int .i64 120])/\Upd N w w'
theorem res2{g:Nat}{a b:Value}{W:World}(hA:Aa W (g+1) 3 #[a])(hE:Aa W (g+2) 27 #[b])(tmps:Array Value)(h4:tmps.getD 4 undef = .pointer (some ⟨g+1,0,none⟩))(h5:tmps.getD 5 undef = .pointer (some ⟨g+2,0,none⟩)) :
  (results Tryz.f59 tmps).run Tryz.prog W = .ok (.tuple #[a,b]) W:=
 q1G rfl tmps W (g+1) (g+2) a b h4 h5 (q05 (isAgI W) (hA.cell 0)) (q05 (isAgE W) (hE.cell 0))
theorem program(w0 w:World)(N:Nat->Prop)(lo g:Nat)(c:St)(m:Nat)(k a:Int)(s:Bs)(n:Nat)(A:Option Addr)(cA:Nat)(B:Option Addr)(lb cB:Nat)(l:List Tz)(css:List (List Value))(hb:Below w0.heap.size w0 w)(hL:Af w0 A css.flatten)(hS:Am True w0 l css)(hl:l.length<=maxLen)
  (hlz:aY l) (hN:∀ b,N b->w0.heap.size<=b) (hc:CK N lo w g c m) (hm:m+au l<=1099511627776) :
  Calls Tryz.prog 59 #[.pointer (some ⟨g,0,none⟩),aO k a s n A l.length cA B lb cB] w (PrgP N lo w g (cO 0 l c) (m+au l)):=by
 obtain ⟨wn,hwn,hbn,hsn,aK,hAn,hEn⟩:=boxes3 w (nB k a s n A l.length cA B lb cB);have hb0:=hb.trans (hbn.mono hb.size);have hC0:=q0e hc hbn;have HST:=Hi (statements (statement (SizeOf.sizeOf l+1)) w0 wn (In2 N w wn) lo g c m A cA l css hb0 hL hS hl hlz (fun i x h=>Nat.lt_succ_of_lt (List.sizeOf_lt_of_mem (List.mem_of_getElem? h))) (q0U (w:=w) hN (Nat.le_trans hb.size hbn.size)) hC0 hm);have Bc:=Hi (Upd.of_below hbn N);have HA:=Hi hAn;have HE:=Hi hEn;have HW:=Hi hwn;have HSN:=Hi hsn;obtain ⟨⟨e0,e1,e2,e3,e4,e5⟩,z0,z1,z2,z3,z4,z5⟩:=Aa.c6 aK;have hmf:∀ (fn:Fn) (first cap:Array Value) (w:World),(Instr.makeFunc fn first cap).run Tryz.prog w = .ok (.func fn first cap) w:=fun _ _ _ _=>rfl
 obtain ⟨res,hres⟩:∃ res,cO 0 l c=res:=⟨_,rfl⟩;rw [hres] at HST ⊢;have HNI:=Hi (show ∀ b,w.heap.size<=b->b < w.heap.size+3->¬ In2 N w wn b from fun b h1 h2 h=>by
  rcases h with h | h
  ·have:=h.2;omega
  ·omega)
 obtain ⟨g0,hg0⟩:∃ g0,w.heap.size=g0:=⟨_,rfl⟩;have HG0:=Hi hg0;rw [hg0] at HA HE HNI e0 e1 e2 e3 e4 e5 z0 z1 z2 z3 z4 z5;clear hres hbn aK hAn hEn hwn hb hL hS hlz hm hN hc hsn hb0 hC0
 go_enter_defers Tryz.func59,Tryz.ntmps59
 go_wp2_with fail
 simp only [Nat.add_assoc,Nat.reduceAdd];rw [HW.out];refine (show Calls Tryz.prog 93 #[.pointer (some ⟨g,0,none⟩),.slice A l.length cA] wn _ from HST.out).mono ?_;intro e w1 h1;clear e0 e1 e2 e3 e4 e5 z0 z1 z2 z3 z4 z5;cases res with
 | bad a1=>
  obtain ⟨rfl,hu1⟩:=h1;have hA1:=HA.out.upd hu1 (HNI.out _ V0 V0);have hE1:=HE.out.upd hu1 (HNI.out _ V0 V0);have Aj:=Hi (q0i Bc.out hu1 V9);have HA1:=Hi hA1;have HE1:=Hi hE1;clear hu1;go_wp2_with fail
  refine leaves_cons (f:=92) (args:=#[.pointer (some ⟨g0+1,0,none⟩),.pointer (some ⟨g0+2,0,none⟩)]) V3 VR ?_;refine (catch_wrong (g0+1) a1 w1 HA1.out HE1.out).mono ?_;rintro e u' w4 ⟨rfl,rfl,hA4,hE4,hU4⟩;exact ⟨_,res2 hA4 hE4 _ rfl rfl,rfl,dm Aj.out hU4 fun b hb hlt=>VH⟩
 | ok d=>
  obtain ⟨rfl,hc1,hu1⟩:=h1;have hA1:=HA.out.upd hu1 (HNI.out _ V0 V0);have hE1:=HE.out.upd hu1 (HNI.out _ V0 V0);have Aj:=Hi (q0i Bc.out hu1 V9);have HC1:=Hi (q1v hc1 (Nat.le_refl _));have c1:w1.cell? ⟨g0+1,0,none⟩=some (.int .i64 0):=hA1.cell 0;have c2:w1.cell? ⟨g0+2,0,none⟩=some (.int .i64 0):=hE1.cell 0;have f1:=hA1.frozen 0;have f2:=hE1.frozen 0;have hg12:g0+1≠g0+2:=V0;have HA2:=Hi (show Aa _ (g0+1) 3 #[.int .i64 0] from (hA1.set 0 (.int .i64 0)).far (p:=⟨g0+2,0,none⟩) hg12 (.int .i64 0));have HE2:=Hi (show Aa _ (g0+2) 27 #[.int .i64 0] from (hE1.far (p:=⟨g0+1,0,none⟩) (Ne.symm hg12) (.int .i64 0)).set 0 (.int .i64 0));have hu2:=((Upd.refl (fun b=>b=g0+1\/b=g0+2) w1).setCell (p:=⟨g0+1,0,none⟩) (fun _=>.inl rfl) (.int .i64 0)).setCell (p:=⟨g0+2,0,none⟩) (fun _=>.inr rfl) (.int .i64 0);have HC2:=Hi (q2b (HC1.out.far hu2 fun b hb h=>by rcases h with h | h <;> exact HNI.out b V0 V0 hb) V9);have Ai:=Hi (dm Aj.out hu2 fun b hb hlt=>VH);clear hu1 hc1 hA1 hE1 hu2;go_wp2_with fail
  refine leaves_cons (f:=92) (args:=#[.pointer (some ⟨g0+1,0,none⟩),.pointer (some ⟨g0+2,0,none⟩)]) V3 VR ?_;refine (catch_idle ⟨g0+1,0,none⟩ ⟨g0+2,0,none⟩ _).mono ?_;rintro e u' w7 ⟨rfl,rfl,rfl⟩;exact ⟨_,res2 HA2.out HE2.out _ rfl rfl,rfl,HC2.out,Ai.out⟩
end
theorem q4D{w w':World}{b:Nat}(h:w.mapTurned w' b):w'.heap.size=w.heap.size:=by
 obtain ⟨es,clock,es',clock',_,rfl⟩:=h;simp [ChangeMaps.setBlock]
def nil3:Array Value:=#[.slice none 0 0,.slice none 0 0,.slice none 0 0]
def NaP(lo:Nat)(w:World)(vs vp vo:Value)(c:St):Prop:=
 w.ownsRow lo 9 1 vs c.se.length (c.se.map ai)/\w.ownsRow lo 9 1 vp c.pu.length (c.pu.map ai)/\w.ownsRow lo 36 3 vo c.ou.length (c.ou.flatMap laC)/\c.se.length<=1099511627776/\c.pu.length<=1099511627776/\c.ou.length<=1099511627776
def ChkP(w:World)(r:Rs)(e:Ending)(w':World):Prop:=
 match r with
 | .ok c=>∃ vs vp vo,e = .returned (.tuple #[.agg #[vs,vp,vo],.int .i64 0,.int .i64 0])/\NaP w.heap.size w' vs vp vo c/\Below w.heap.size w w'
 | .bad a=>e = .returned (.tuple #[.agg nil3,.int .i64 a,.int .i64 120])/\Below w.heap.size w w'
theorem szNm:(Tryz.prog.info? 39).map (·.size)=some 3:=V1
theorem q2L{fn:Func}{p q r:Tmp}{tx:TypeId}(h:fn.results = #[.cell p tx,.tmp q,.tmp r]){P:Program}(tmps:Array Value)(w:World)(g1:Nat)(v1:Value)
  (hp:tmps.getD p undef = .pointer (some ⟨g1,0,none⟩)) (h1:(loadVar tx ⟨g1,0,none⟩).run P w = .ok v1 w) :
  (results fn tmps).run P w = .ok (.tuple #[v1,tmps.getD q undef,tmps.getD r undef]) w:=by
 have hp':tmps[p]?.getD undef = .pointer (some ⟨g1,0,none⟩):=VQ;simp [results,h,hp',asAddr,h1]
theorem resNm{g:Nat}{n:Array Value}{W:World}(hN:Aa W g 39 n)(hs:some 3=some n.size)(tmps:Array Value)(h2:tmps.getD 2 undef = .pointer (some ⟨g,0,none⟩)) :
  (results Tryz.f28 tmps).run Tryz.prog W = .ok (.tuple #[.agg n,tmps.getD 3 undef,tmps.getD 4 undef]) W:=
 q2L rfl tmps W g (.agg n) h2 (run_loadVar_row W g 39 39 n (0,0) _ hN Tryz.underlying39 rfl (szNm.trans hs))
theorem q2M{w:World}{lo lo':Nat}{e:TypeId}{size n:Nat}{v:Value}{xs:List Value}(h:w.ownsRow lo e size v n xs)(hl:lo'<=lo):w.ownsRow lo' e size v n xs:=⟨h.1,h.2.imp id fun ⟨g,cap,cur,a,b,r⟩=>⟨g,cap,cur,a,Nat.le_trans hl b,r⟩⟩
theorem q7D{w:World}{lo kb ob g:Nat}(hg:Aa w g 109 #[.slice none 0 0,.slice none 0 0,.slice none 0 0,.map (some kb),.map (some ob),.slice none 0 0])(hk:MpK w kb 1 init.kn)(ho:MpS w ob 0 (fun _=>false))(hlo:lo<=kb/\kb < ob/\ob < g):CK (fun b=>lo<=b) lo w g init 1:=by
 refine ⟨⟨_,_,_,_,kb,ob,hg,World.ownsRow_nil _ _ _ _,World.ownsRow_nil _ _ _ _,World.ownsRow_nil _ _ _ _,World.ownsRow_nil _ _ _ _,hk,ho.mono V2,?_,?_,V0,V0,V0,by have:=hg.lt;omega⟩,⟨Nat.zero_le _,Nat.zero_le _,Nat.zero_le _,Nat.zero_le _⟩,fun s hs=>by cases hs⟩
 ·have h1:g≠kb:=by omega
  have h2:g≠ob:=V0;have h3:kb≠ob:=V0;unfold Dis;simp [Value.ownBlock,h1,h2,h3,Ne.symm h1,Ne.symm h2,Ne.symm h3]
 ·intro x hx b hb;simp only [List.mem_cons,List.not_mem_nil,or_false] at hx;rcases hx with rfl | rfl | rfl | rfl | rfl | rfl | rfl
  ·cases hb;omega
  ·cases hb;omega
  ·cases hb;omega
  ·cases hb
  ·cases hb
  ·cases hb
  ·cases hb
theorem check(z:Tz)(hlz:lenz z)(hm:nbz z<=1099511627776)(w:World)(k a:Int)(s:Bs)(n:Nat)(A:Option Addr)(la cA:Nat)(B:Option Addr)(lb cB:Nat)(hT:TIc True w z (nzC k a s n A la cA B lb cB)) :
  Calls Tryz.prog 28 #[aO k a s n A la cA B lb cB] w (ChkP w (ckB z)):=by
 obtain ⟨k1,a1,s1,n1,ps,l⟩:=z;obtain ⟨rfl,rfl,rfl,rfl,rfl,rfl,hl,_,_,css,hL,hS⟩:=q0B hT;have hck:ckB (.mk k a s n ps l)=cO 0 l init:=rfl;rw [hck];obtain ⟨w1,hw1,hb1,hX1,hs1⟩:=dw w (nB k a s n A l.length cA B ps.length cB);obtain ⟨w2,hw2⟩:∃ w2,w1.alloc (.cells nil3 39)=w2:=⟨_,rfl⟩;have hb2:Below w1.heap.size w1 w2:=V1J;have hR2:Aa w2 w1.heap.size 39 nil3:=by rw [<-hw2];exact Aa.new _ _ _
 have hs2:w2.heap.size=w1.heap.size+1:=VS;rw [hs1] at hR2;obtain ⟨w3,hw3⟩:∃ w3,w2.alloc (.map #[] 0)=w3:=⟨_,rfl⟩;have hb3:Below w2.heap.size w2 w3:=V1K;have hs3:w3.heap.size=w2.heap.size+1:=by rw [<-hw3];simp
 have hm3:MpK w3 w2.heap.size 0 (fun _=>none):=by rw [<-hw3];exact MpK.made w2
 obtain ⟨kb,hkb⟩:∃ kb,w2.heap.size=kb:=⟨_,rfl⟩;have hmk1:(Instr.makeMap 105 none).run Tryz.prog w2 = .ok (.map (some kb)) w3:=by rw [<-hw3,<-hkb];exact run_makeMap _ _
 rw [hkb] at hm3;obtain ⟨w4,hrun,hm4,ht4⟩:=hm3.put (s:=sel) V2 V2 (1,3) V2 V2;have hrun':(Instr.mapUpdate 105 (.map (some kb)) (.string ⟨#[115,101,108]⟩) (.agg #[.int .i64 1,.int .i64 3])).run Tryz.prog w3 = .ok () w4:=hrun;have hs4:=q4D ht4;have aF:Upd (fun b=>b=kb) w3 w4:=q0f ht4 rfl;obtain ⟨w5,hw5⟩:∃ w5,w4.alloc (.map #[] 0)=w5:=⟨_,rfl⟩;have hb5:Below w4.heap.size w4 w5:=V4e;have hs5:w5.heap.size=w4.heap.size+1:=V18;have ho5:MpS w5 w4.heap.size 0 (fun _=>false):=by rw [<-hw5];exact MpS.made w4
 obtain ⟨ob,hob⟩:∃ ob,w4.heap.size=ob:=⟨_,rfl⟩;have hmk2:(Instr.makeMap 107 none).run Tryz.prog w4 = .ok (.map (some ob)) w5:=by rw [<-hw5,<-hob];exact run_makeMap _ _
 rw [hob] at ho5;obtain ⟨w6,hw6,hb6,hX6⟩:=aS w5 #[.slice none 0 0,.slice none 0 0,.slice none 0 0,.map (some kb),.map (some ob),.slice none 0 0] 109;obtain ⟨g,hg⟩:∃ g,w5.heap.size=g:=⟨_,rfl⟩;rw [hg] at hX6;have hb26:Upd (fun b=>b=kb) w2 w6:=(((Upd.of_below hb3 _).trans aF).trans (Upd.of_below hb5 _)).trans (Upd.of_below hb6 _);have hb06:Below w.heap.size w w6:=(hb1.trans (hb2.mono hb1.size)).trans (hb26.below V0 fun b hb=>V0);have hR6:Aa w6 (w.heap.size+1) 39 nil3:=hR2.upd hb26 V0;have hN6:Aa w6 w.heap.size 26 (nB k a s n A l.length cA B ps.length cB):=(hX1.below hb2 hX1.lt).upd hb26 V0;have hK6:MpK w6 kb 1 init.kn:=(hm4.upd (Upd.of_below hb5 fun _=>False) id).upd (Upd.of_below hb6 fun _=>False) id;have hO6:MpS w6 ob 0 (fun _=>false):=ho5.upd (Upd.of_below hb6 fun _=>False) id;have hCK:CK (fun b=>w.heap.size+2<=b) (w.heap.size+2) w6 g init 1:=q7D hX6 hK6 hO6 V0;have hnb:nbz (.mk k a s n ps l)=ps.length+1+au l:=rfl;have HPR:=Hi (program w w6 (fun b=>w.heap.size+2<=b) (w.heap.size+2) g init 1 k a s n A cA B ps.length cB l css hb06 hL hS hl (q0G hlz).2.2 (fun b hb=>V0) hCK V0);have HW1:=Hi hw1;have HW2:=Hi hw2;have HW6:=Hi hw6;have HB6:=Hi hb06;have HR6:=Hi hR6;have HG:=Hi hg;obtain ⟨⟨e0,e1,e2,e3,e4,e5⟩,z0,z1,z2,z3,z4,z5⟩:=Aa.c6 hN6;obtain ⟨res,hres⟩:∃ res,cO 0 l init=res:=⟨_,rfl⟩;rw [hres] at HPR ⊢;have hmm:1+au l<=1099511627776:=V0;clear hT hL hS hl hlz hm hw1 hb1 hX1 hs1 hw2 hb2 hR2 hs2 hw3 hb3 hs3 hm3 hkb hm4 ht4 hs4 aF hw5 hb5 hs5 ho5 hob hw6 hb6 hX6 hg hb26 hb06 hR6 hN6 hK6 hO6 hCK hck hnb hrun hres;go_enter Tryz.func28,Tryz.ntmps28;go_upto_region 1 with fail
 rw [HW1.out];rw [show w1.alloc (.cells #[.slice none 0 0,.slice none 0 0,.slice none 0 0] 39)=w2 from HW2.out];go_upto_region 2 with fail
 rw [HW6.out,HG.out];go_wp2_with fail
 refine (show Calls Tryz.prog 59 #[.pointer (some ⟨g,0,none⟩),aO k a s n A l.length cA B ps.length cB] w6 _ from HPR.out).mono ?_;intro e w7 h7;clear e0 e1 e2 e3 e4 e5 z0 z1 z2 z3 z4 z5 hmk1 hmk2 hrun';cases res with
 | bad a1=>
  obtain ⟨rfl,hu7⟩:=h7;have hR7:=HR6.out.upd hu7 V0;obtain ⟨q0,q1,q2,y0,y1,y2⟩:=Aa.c3 (show Aa w7 (w.heap.size+1) 39 #[.slice none 0 0,.slice none 0 0,.slice none 0 0] from hR7);have HB7:=Hi (HB6.out.trans (hu7.below HB6.out.size fun b hb=>V0));have hRR:=Aa.put3 (show Aa w7 (w.heap.size+1) 39 #[.slice none 0 0,.slice none 0 0,.slice none 0 0] from hR7) (.slice none 0 0) (.slice none 0 0) (.slice none 0 0);have HRR:=Hi hRR;have Ac:=Hi (show ChkP w (.bad a1) (.returned (.tuple #[.agg nil3,.int .i64 a1,.int .i64 120])) (((w7.setCell ⟨w.heap.size+1,0,none⟩ (.slice none 0 0)).setCell ⟨w.heap.size+1,1,none⟩ (.slice none 0 0)).setCell ⟨w.heap.size+1,2,none⟩ (.slice none 0 0)) from
   ⟨rfl,((HB7.out.setCell (p:=⟨w.heap.size+1,0,none⟩) (Nat.le_succ _) _).setCell (p:=⟨w.heap.size+1,1,none⟩) (Nat.le_succ _) _).setCell (p:=⟨w.heap.size+1,2,none⟩) (Nat.le_succ _) _⟩)
  clear hu7 hR7 hRR;go_wp2_with fail
  exact bodyPost_ret (v:=.tuple #[.agg nil3,.int .i64 a1,.int .i64 120]) (resNm HRR.out rfl _ rfl) rfl Ac.out
 | ok c=>
  obtain ⟨rfl,hc7,hu7⟩:=h7;have hR7:=HR6.out.upd hu7 V0;obtain ⟨q0,q1,q2,y0,y1,y2⟩:=Aa.c3 (show Aa w7 (w.heap.size+1) 39 #[.slice none 0 0,.slice none 0 0,.slice none 0 0] from hR7);have HB7:=Hi (HB6.out.trans (hu7.below HB6.out.size fun b hb=>V0));obtain ⟨⟨vs,vp,vo,ve,kb2,ob2,hv⟩,hbd7,_⟩:=hc7;have Az:=Hi (show c.se.length<=1099511627776/\c.pu.length<=1099511627776/\c.ou.length<=1099511627776 from ⟨by have:=hbd7.1;omega,by have:=hbd7.2.1;omega,by have:=hbd7.2.2.1;omega⟩);clear hbd7;have c0:w7.cell? ⟨g,0,none⟩=some vs:=hv.blk.cell 0;have c1:w7.cell? ⟨g,1,none⟩=some vp:=hv.blk.cell 1;have c2:w7.cell? ⟨g,2,none⟩=some vo:=hv.blk.cell 2;obtain ⟨As,cs,rfl⟩:=q07 hv.os;obtain ⟨Ap,cp,rfl⟩:=q07 hv.op;obtain ⟨Ao,co,rfl⟩:=q07 hv.oo;have hlt:=hv.blk.lt;have hRR:=Aa.put3 (show Aa w7 (w.heap.size+1) 39 #[.slice none 0 0,.slice none 0 0,.slice none 0 0] from hR7) (.slice As c.se.length cs) (.slice Ap c.pu.length cp) (.slice Ao c.ou.length co);have HRR:=Hi hRR;have hun:Upd (fun b=>b=w.heap.size+1) w7 (((w7.setCell ⟨w.heap.size+1,0,none⟩ (.slice As c.se.length cs)).setCell ⟨w.heap.size+1,1,none⟩ (.slice Ap c.pu.length cp)).setCell ⟨w.heap.size+1,2,none⟩ (.slice Ao c.ou.length co)):=(((Upd.refl (fun b=>b=w.heap.size+1) w7).setCell (p:=⟨w.heap.size+1,0,none⟩) (fun _=>rfl) _).setCell (p:=⟨w.heap.size+1,1,none⟩) (fun _=>rfl) _).setCell (p:=⟨w.heap.size+1,2,none⟩) (fun _=>rfl) _;have hno:∀ b,w.heap.size+2<=b->¬ b=w.heap.size+1:=fun b hb=>V0
  have Ac:=Hi (show ChkP w (.ok c) (.returned (.tuple #[.agg #[.slice As c.se.length cs,.slice Ap c.pu.length cp,.slice Ao c.ou.length co],.int .i64 0,.int .i64 0])) (((w7.setCell ⟨w.heap.size+1,0,none⟩ (.slice As c.se.length cs)).setCell ⟨w.heap.size+1,1,none⟩ (.slice Ap c.pu.length cp)).setCell ⟨w.heap.size+1,2,none⟩ (.slice Ao c.ou.length co)) from
   ⟨_,_,_,rfl,⟨q2M (ae hv.os hun fun b hb=>hno b (av hv.os b hb).1) V0,q2M (ae hv.op hun fun b hb=>hno b (av hv.op b hb).1) V0,q2M (ae hv.oo hun fun b hb=>hno b (av hv.oo b hb).1) V0,Az.out⟩,HB7.out.trans (hun.below HB7.out.size fun b hb=>V0)⟩)
  clear hu7 hR7 hRR hv hun hno;go_wp2_with fail
  exact bodyPost_ret (v:=.tuple #[.agg #[.slice As c.se.length cs,.slice Ap c.pu.length cp,.slice Ao c.ou.length co],.int .i64 0,.int .i64 0]) (resNm HRR.out rfl _ rfl) rfl Ac.out
end Nm
end Go.Proofs.YtcgibpdjfgjldaaGreatDoor
