/- DERIVED. NmPg, NmChk, EvNm. By an AI agent. -/
import Derived.Test.YtcgibpdjfgjldaaGreatDoorT17
import Derived.Test.YtcgibpdjfgjldaaGreatDoorT14
import Derived.Tactics
import Derived.Defers
import Derived.Recover
set_option maxRecDepth 100000
set_option maxHeartbeats 4000000
set_option linter.unusedVariables false
set_option linter.unusedSimpArgs false
open Go Go.ChangeShapes Go.WideShapes Go.ChangeAt Go.RowKit
namespace Go.Proofs.YtcgibpdjfgjldaaGreatDoor
namespace Nm
open Lx Args Pa Sh
section
theorem catch_idle(p q:Addr)(w:World) :
  CallsD Tryz.prog 92 #[.pointer (some p),.pointer (some q)] .returning w fun e u' w'=>e = .returned (.tuple #[])/\u' = .returning/\w'=w:=by
 have hnil:∀ w:World,(binOp BinOp.neq 20 .nilIface .nilIface).run Tryz.prog w = .ok (.bool false) w:=fun _=>V1
 refine callsD_of_wpS Tryz.func92 rfl fun c₀ cs hu=>?_
 apply wpS_seq;apply wpS_region;simp [wpOpsS,go_sem,recoverD,hu,Tryz.ntmps92,Exit.thenS];refine wpS_of_wp ?_;go_wp2_with fail
 cases c₀
 simp_all [bodyPostS,results,Tryz.results92]
theorem fWr0(a:Int)(w:World):(Instr.field 152 (.agg #[.int .i64 a]) 0).run Tryz.prog w = .ok (.int .i64 a) w:=V1
attribute [local go_sem] fWr0
theorem catch_wrong(g:Nat)(a:Int)(w:World){a0 q0:Value}(ha:Blk w g 3 #[a0])(he:Blk w (g+1) 27 #[q0]) :
  CallsD Tryz.prog 92 #[.pointer (some ⟨g,0,none⟩),.pointer (some ⟨g+1,0,none⟩)] (.panicking [{ v:=.iface 152 (.agg #[.int .i64 a]),recovered:=false }]) w fun e u' w'=>e = .returned (.tuple #[]) /\
   u' = .panicking [{ v:=.iface 152 (.agg #[.int .i64 a]),recovered:=true }]/\Blk w' g 3 #[.int .i64 a]/\Blk w' (g+1) 27 #[.int .i64 120]/\Upd (fun b=>b=g\/b=g+1) w w':=by
 have hne:∀ w:World,(binOp BinOp.neq 20 (.iface 152 (.agg #[.int .i64 a])) .nilIface).run Tryz.prog w = .ok (.bool true) w:=fun _=>V1
 have hta:∀ w:World,(Instr.typeAssert (.iface 152 (.agg #[.int .i64 a])) 20 152 false).run Tryz.prog w = .ok (.agg #[.int .i64 a]) w:=fun _=>V1
 refine callsD_of_wpS Tryz.func92 rfl fun c₀ cs hu=>?_
 apply wpS_seq;apply wpS_region;simp [wpOpsS,go_sem,recoverD,hu,Tryz.ntmps92,Exit.thenS];refine wpS_of_wp ?_;simp only [Array.replicate_succ,Array.replicate_zero,List.push_toArray,List.setIfInBounds_toArray,List.set_cons_succ,List.set_cons_zero,List.append_toArray,List.cons_append,List.nil_append];have c1:w.cell? ⟨g,0,none⟩=some a0:=ha.cell 0;have c2:w.cell? ⟨g+1,0,none⟩=some q0:=he.cell 0;have f1:=ha.frozen 0;have f2:=he.frozen 0;have hg01:g≠g+1:=V0;have HA:=Hi ((ha.set 0 (.int .i64 a)).far (p:=⟨g+1,0,none⟩) hg01 (.int .i64 120));have HE:=Hi ((he.far (p:=⟨g,0,none⟩) (Ne.symm hg01) (.int .i64 a)).set 0 (.int .i64 120));have HU:=Hi (((Upd.refl (fun b=>b=g\/b=g+1) w).setCell (p:=⟨g,0,none⟩) (fun _=>.inl rfl) (.int .i64 a)).setCell (p:=⟨g+1,0,none⟩) (fun _=>.inr rfl) (.int .i64 120));clear ha he;go_wp2_with fail
 exact ⟨rfl,_,rfl,_,results_none rfl _ _ _,rfl,rfl,HA.out,HE.out,HU.out⟩
theorem isAgI(w:World):(isAgg 3).run Tryz.prog w = .ok false w:=Go.Proofs.run_isAgg_plain Tryz.underlying3 rfl w
theorem isAgE(w:World):(isAgg 27).run Tryz.prog w = .ok false w:=Go.Proofs.run_isAgg_plain Tryz.underlying27 rfl w
theorem boxes3(w:World)(cs:Array Value):∃ w0,((w.alloc (.cells cs 26)).alloc (.cells #[.int .i64 0] 3)).alloc (.cells #[.int .i64 0] 27)=w0/\Below w.heap.size w w0/\w0.heap.size=w.heap.size+3 /\
  Blk w0 w.heap.size 26 cs/\Blk w0 (w.heap.size+1) 3 #[.int .i64 0]/\Blk w0 (w.heap.size+2) 27 #[.int .i64 0]:=by
 refine ⟨_,rfl,(((Below.refl _ _).alloc (Nat.le_refl _) _).alloc V3 _).alloc V4 _,V3,((Blk.new _ _ _).alloc _).alloc _,?_,?_⟩
 ·have h:=(Blk.new (w.alloc (.cells cs 26)) 3 #[.int .i64 0]).alloc (.cells #[.int .i64 0] 27);exact V3X
 ·have h:=Blk.new ((w.alloc (.cells cs 26)).alloc (.cells #[.int .i64 0] 3)) 27 #[.int .i64 0];have e:((w.alloc (.cells cs 26)).alloc (.cells #[.int .i64 0] 3)).heap.size=w.heap.size+2:=V3;rw [e] at h;exact h
def PrgP(N:Nat->Prop)(lo:Nat)(w:World)(g:Nat)(r:Rs)(m:Nat)(e:Ending)(w':World):Prop:=
 match r with | .ok c=>e = .returned (.tuple #[.int .i64 0,.int .i64 0])/\CK (New N w) lo w' g c m/\Upd N w w' | .bad a=>e = .returned (.tuple #[.int .i64 a,.int .i64 120])/\Upd N w w'
theorem res2{g:Nat}{a b:Value}{W:World}(hA:Blk W (g+1) 3 #[a])(hE:Blk W (g+2) 27 #[b])(tmps:Array Value)(h4:tmps.getD 4 undef = .pointer (some ⟨g+1,0,none⟩))(h5:tmps.getD 5 undef = .pointer (some ⟨g+2,0,none⟩)) :
  (results Tryz.f59 tmps).run Tryz.prog W = .ok (.tuple #[a,b]) W:=
 q18 rfl tmps W (g+1) (g+2) a b h4 h5 (q03 (isAgI W) (hA.cell 0)) (q03 (isAgE W) (hE.cell 0))
theorem program(w0 w:World)(N:Nat->Prop)(lo g:Nat)(c:St)(m:Nat)(k a:Int)(s:Bs)(n:Nat)(A:Option Addr)(cA:Nat)(B:Option Addr)(lb cB:Nat)(l:List Tz)(css:List (List Value))(hb:Below w0.heap.size w0 w)(hL:Lies w0 A css.flatten)(hS:TsIc True w0 l css)(hl:l.length<=maxLen)
  (hlz:lenzs l) (hN:∀ b,N b->w0.heap.size<=b) (hc:CK N lo w g c m) (hm:m+nbzs l<=1099511627776) :
  Calls Tryz.prog 59 #[.pointer (some ⟨g,0,none⟩),nzA k a s n A l.length cA B lb cB] w (PrgP N lo w g (stBs 0 l c) (m+nbzs l)):=by
 obtain ⟨wn,hwn,hbn,hsn,hXn,hAn,hEn⟩:=boxes3 w (nB k a s n A l.length cA B lb cB);have hb0:=hb.trans (hbn.mono hb.size);have hC0:=q0d hc hbn;have HST:=Hi (statements (statement (SizeOf.sizeOf l+1)) w0 wn (In2 N w wn) lo g c m A cA l css hb0 hL hS hl hlz (fun i x h=>Nat.lt_succ_of_lt (List.sizeOf_lt_of_mem (List.mem_of_getElem? h))) (q0R (w:=w) hN (Nat.le_trans hb.size hbn.size)) hC0 hm);have HU0:=Hi (Upd.of_below hbn N);have HA:=Hi hAn;have HE:=Hi hEn;have HW:=Hi hwn;have HSN:=Hi hsn;obtain ⟨⟨e0,e1,e2,e3,e4,e5⟩,z0,z1,z2,z3,z4,z5⟩:=Blk.c6 hXn;have hmf:∀ (fn:Fn) (first cap:Array Value) (w:World),(Instr.makeFunc fn first cap).run Tryz.prog w = .ok (.func fn first cap) w:=fun _ _ _ _=>rfl
 obtain ⟨res,hres⟩:∃ res,stBs 0 l c=res:=⟨_,rfl⟩;rw [hres] at HST ⊢;have HNI:=Hi (show ∀ b,w.heap.size<=b->b < w.heap.size+3->¬ In2 N w wn b from fun b h1 h2 h=>by
  rcases h with h | h
  ·have:=h.2;omega
  ·omega)
 obtain ⟨g0,hg0⟩:∃ g0,w.heap.size=g0:=⟨_,rfl⟩;have HG0:=Hi hg0;rw [hg0] at HA HE HNI e0 e1 e2 e3 e4 e5 z0 z1 z2 z3 z4 z5;clear hres hbn hXn hAn hEn hwn hb hL hS hlz hm hN hc hsn hb0 hC0
 go_enter_defers Tryz.func59,Tryz.ntmps59
 go_wp2_with fail
 simp only [Nat.add_assoc,Nat.reduceAdd];rw [HW.out];refine (show Calls Tryz.prog 93 #[.pointer (some ⟨g,0,none⟩),.slice A l.length cA] wn _ from HST.out).mono ?_;intro e w1 h1;clear e0 e1 e2 e3 e4 e5 z0 z1 z2 z3 z4 z5;cases res with
 | bad a1=>
  obtain ⟨rfl,hu1⟩:=h1;have hA1:=HA.out.upd hu1 (HNI.out _ V0 V0);have hE1:=HE.out.upd hu1 (HNI.out _ V0 V0);have HU1:=Hi (q0i HU0.out hu1 V9);have HA1:=Hi hA1;have HE1:=Hi hE1;clear hu1;go_wp2_with fail
  refine leaves_cons (f:=92) (args:=#[.pointer (some ⟨g0+1,0,none⟩),.pointer (some ⟨g0+2,0,none⟩)]) V3 VN ?_;refine (catch_wrong (g0+1) a1 w1 HA1.out HE1.out).mono ?_;rintro e u' w4 ⟨rfl,rfl,hA4,hE4,hU4⟩;exact ⟨_,res2 hA4 hE4 _ rfl rfl,rfl,q01 HU1.out hU4 fun b hb hlt=>VG⟩
 | ok d=>
  obtain ⟨rfl,hc1,hu1⟩:=h1;have hA1:=HA.out.upd hu1 (HNI.out _ V0 V0);have hE1:=HE.out.upd hu1 (HNI.out _ V0 V0);have HU1:=Hi (q0i HU0.out hu1 V9);have HC1:=Hi (q1u hc1 (Nat.le_refl _));have c1:w1.cell? ⟨g0+1,0,none⟩=some (.int .i64 0):=hA1.cell 0;have c2:w1.cell? ⟨g0+2,0,none⟩=some (.int .i64 0):=hE1.cell 0;have f1:=hA1.frozen 0;have f2:=hE1.frozen 0;have hg12:g0+1≠g0+2:=V0;have HA2:=Hi (show Blk _ (g0+1) 3 #[.int .i64 0] from (hA1.set 0 (.int .i64 0)).far (p:=⟨g0+2,0,none⟩) hg12 (.int .i64 0));have HE2:=Hi (show Blk _ (g0+2) 27 #[.int .i64 0] from (hE1.far (p:=⟨g0+1,0,none⟩) (Ne.symm hg12) (.int .i64 0)).set 0 (.int .i64 0));have hu2:=((Upd.refl (fun b=>b=g0+1\/b=g0+2) w1).setCell (p:=⟨g0+1,0,none⟩) (fun _=>.inl rfl) (.int .i64 0)).setCell (p:=⟨g0+2,0,none⟩) (fun _=>.inr rfl) (.int .i64 0);have HC2:=Hi (q2f (HC1.out.far hu2 fun b hb h=>by rcases h with h | h <;> exact HNI.out b V0 V0 hb) V9);have HU2:=Hi (q01 HU1.out hu2 fun b hb hlt=>VG);clear hu1 hc1 hA1 hE1 hu2;go_wp2_with fail
  refine leaves_cons (f:=92) (args:=#[.pointer (some ⟨g0+1,0,none⟩),.pointer (some ⟨g0+2,0,none⟩)]) V3 VN ?_;refine (catch_idle ⟨g0+1,0,none⟩ ⟨g0+2,0,none⟩ _).mono ?_;rintro e u' w7 ⟨rfl,rfl,rfl⟩;exact ⟨_,res2 HA2.out HE2.out _ rfl rfl,rfl,HC2.out,HU2.out⟩
end
theorem q1M{w w':World}{b:Nat}(h:w.mapTurned w' b):w'.heap.size=w.heap.size:=by
 obtain ⟨es,clock,es',clock',_,rfl⟩:=h;simp [ChangeMaps.setBlock]
def nil3:Array Value:=#[.slice none 0 0,.slice none 0 0,.slice none 0 0]
def NaP(lo:Nat)(w:World)(vs vp vo:Value)(c:St):Prop:=
 w.ownsRow lo 9 1 vs c.se.length (c.se.map strV)/\w.ownsRow lo 9 1 vp c.pu.length (c.pu.map strV)/\w.ownsRow lo 36 3 vo c.ou.length (c.ou.flatMap laC)/\c.se.length<=1099511627776/\c.pu.length<=1099511627776/\c.ou.length<=1099511627776
def ChkP(w:World)(r:Rs)(e:Ending)(w':World):Prop:=
 match r with
 | .ok c=>∃ vs vp vo,e = .returned (.tuple #[.agg #[vs,vp,vo],.int .i64 0,.int .i64 0])/\NaP w.heap.size w' vs vp vo c/\Below w.heap.size w w'
 | .bad a=>e = .returned (.tuple #[.agg nil3,.int .i64 a,.int .i64 120])/\Below w.heap.size w w'
theorem szNm:(Tryz.prog.info? 39).map (·.size)=some 3:=V1
theorem q4K{fn:Func}{p q r:Tmp}{tx:TypeId}(h:fn.results = #[.cell p tx,.tmp q,.tmp r]){P:Program}(tmps:Array Value)(w:World)(g1:Nat)(v1:Value)
  (hp:tmps.getD p undef = .pointer (some ⟨g1,0,none⟩)) (h1:(loadVar tx ⟨g1,0,none⟩).run P w = .ok v1 w) :
  (results fn tmps).run P w = .ok (.tuple #[v1,tmps.getD q undef,tmps.getD r undef]) w:=by
 have hp':tmps[p]?.getD undef = .pointer (some ⟨g1,0,none⟩):=VF;simp [results,h,hp',asAddr,h1]
theorem resNm{g:Nat}{n:Array Value}{W:World}(hN:Blk W g 39 n)(hs:some 3=some n.size)(tmps:Array Value)(h2:tmps.getD 2 undef = .pointer (some ⟨g,0,none⟩)) :
  (results Tryz.f28 tmps).run Tryz.prog W = .ok (.tuple #[.agg n,tmps.getD 3 undef,tmps.getD 4 undef]) W:=
 q4K rfl tmps W g (.agg n) h2 (run_loadVar_row W g 39 39 n (0,0) _ hN Tryz.underlying39 rfl (szNm.trans hs))
theorem q5i{w:World}{lo lo':Nat}{e:TypeId}{size n:Nat}{v:Value}{xs:List Value}(h:w.ownsRow lo e size v n xs)(hl:lo'<=lo):w.ownsRow lo' e size v n xs:=⟨h.1,h.2.imp id fun ⟨g,cap,cur,a,b,r⟩=>⟨g,cap,cur,a,Nat.le_trans hl b,r⟩⟩
theorem q7Q{w:World}{lo kb ob g:Nat}(hg:Blk w g 109 #[.slice none 0 0,.slice none 0 0,.slice none 0 0,.map (some kb),.map (some ob),.slice none 0 0])(hk:MpK w kb 1 init.kn)(ho:MpS w ob 0 (fun _=>false))(hlo:lo<=kb/\kb < ob/\ob < g):CK (fun b=>lo<=b) lo w g init 1:=by
 refine ⟨⟨_,_,_,_,kb,ob,hg,World.ownsRow_nil _ _ _ _,World.ownsRow_nil _ _ _ _,World.ownsRow_nil _ _ _ _,World.ownsRow_nil _ _ _ _,hk,ho.mono V2,?_,?_,V0,V0,V0,by have:=hg.lt;omega⟩,⟨Nat.zero_le _,Nat.zero_le _,Nat.zero_le _,Nat.zero_le _⟩,fun s hs=>by cases hs⟩
 ·have h1:g≠kb:=by omega
  have h2:g≠ob:=V0;have h3:kb≠ob:=V0;unfold Dis;simp [Value.ownBlock,h1,h2,h3,Ne.symm h1,Ne.symm h2,Ne.symm h3]
 ·intro x hx b hb;simp only [List.mem_cons,List.not_mem_nil,or_false] at hx;rcases hx with rfl | rfl | rfl | rfl | rfl | rfl | rfl
  ·cases hb;omega
  ·cases hb;omega
  ·cases hb;omega
  ·cases hb
  ·cases hb
  ·cases hb
  ·cases hb
theorem check(z:Tz)(hlz:lenz z)(hm:nbz z<=1099511627776)(w:World)(k a:Int)(s:Bs)(n:Nat)(A:Option Addr)(la cA:Nat)(B:Option Addr)(lb cB:Nat)(hT:TIc True w z (nzC k a s n A la cA B lb cB)) :
  Calls Tryz.prog 28 #[nzA k a s n A la cA B lb cB] w (ChkP w (ckB z)):=by
 obtain ⟨k1,a1,s1,n1,ps,l⟩:=z;obtain ⟨rfl,rfl,rfl,rfl,rfl,rfl,hl,_,_,css,hL,hS⟩:=q0O hT;have hck:ckB (.mk k a s n ps l)=stBs 0 l init:=rfl;rw [hck];obtain ⟨w1,hw1,hb1,hX1,hs1⟩:=q05 w (nB k a s n A l.length cA B ps.length cB);obtain ⟨w2,hw2⟩:∃ w2,w1.alloc (.cells nil3 39)=w2:=⟨_,rfl⟩;have hb2:Below w1.heap.size w1 w2:=V1H;have hR2:Blk w2 w1.heap.size 39 nil3:=by rw [<-hw2];exact Blk.new _ _ _
 have hs2:w2.heap.size=w1.heap.size+1:=V03;rw [hs1] at hR2;obtain ⟨w3,hw3⟩:∃ w3,w2.alloc (.map #[] 0)=w3:=⟨_,rfl⟩;have hb3:Below w2.heap.size w2 w3:=V0M;have hs3:w3.heap.size=w2.heap.size+1:=by rw [<-hw3];simp
 have hm3:MpK w3 w2.heap.size 0 (fun _=>none):=by rw [<-hw3];exact MpK.made w2
 obtain ⟨kb,hkb⟩:∃ kb,w2.heap.size=kb:=⟨_,rfl⟩;have hmk1:(Instr.makeMap 105 none).run Tryz.prog w2 = .ok (.map (some kb)) w3:=by rw [<-hw3,<-hkb];exact run_makeMap _ _
 rw [hkb] at hm3;obtain ⟨w4,hrun,hm4,ht4⟩:=hm3.put (s:=sel) V2 V2 (1,3) V2 V2;have hrun':(Instr.mapUpdate 105 (.map (some kb)) (.string ⟨#[115,101,108]⟩) (.agg #[.int .i64 1,.int .i64 3])).run Tryz.prog w3 = .ok () w4:=hrun;have hs4:=q1M ht4;have hu4:Upd (fun b=>b=kb) w3 w4:=q07 ht4 rfl;obtain ⟨w5,hw5⟩:∃ w5,w4.alloc (.map #[] 0)=w5:=⟨_,rfl⟩;have hb5:Below w4.heap.size w4 w5:=V1I;have hs5:w5.heap.size=w4.heap.size+1:=V16;have ho5:MpS w5 w4.heap.size 0 (fun _=>false):=by rw [<-hw5];exact MpS.made w4
 obtain ⟨ob,hob⟩:∃ ob,w4.heap.size=ob:=⟨_,rfl⟩;have hmk2:(Instr.makeMap 107 none).run Tryz.prog w4 = .ok (.map (some ob)) w5:=by rw [<-hw5,<-hob];exact run_makeMap _ _
 rw [hob] at ho5;obtain ⟨w6,hw6,hb6,hX6⟩:=alK w5 #[.slice none 0 0,.slice none 0 0,.slice none 0 0,.map (some kb),.map (some ob),.slice none 0 0] 109;obtain ⟨g,hg⟩:∃ g,w5.heap.size=g:=⟨_,rfl⟩;rw [hg] at hX6;have hb26:Upd (fun b=>b=kb) w2 w6:=(((Upd.of_below hb3 _).trans hu4).trans (Upd.of_below hb5 _)).trans (Upd.of_below hb6 _);have hb06:Below w.heap.size w w6:=(hb1.trans (hb2.mono hb1.size)).trans (hb26.below V0 fun b hb=>V0);have hR6:Blk w6 (w.heap.size+1) 39 nil3:=hR2.upd hb26 V0;have hN6:Blk w6 w.heap.size 26 (nB k a s n A l.length cA B ps.length cB):=(hX1.below hb2 hX1.lt).upd hb26 V0;have hK6:MpK w6 kb 1 init.kn:=(hm4.upd (Upd.of_below hb5 fun _=>False) id).upd (Upd.of_below hb6 fun _=>False) id;have hO6:MpS w6 ob 0 (fun _=>false):=ho5.upd (Upd.of_below hb6 fun _=>False) id;have hCK:CK (fun b=>w.heap.size+2<=b) (w.heap.size+2) w6 g init 1:=q7Q hX6 hK6 hO6 V0;have hnb:nbz (.mk k a s n ps l)=ps.length+1+nbzs l:=rfl;have HPR:=Hi (program w w6 (fun b=>w.heap.size+2<=b) (w.heap.size+2) g init 1 k a s n A cA B ps.length cB l css hb06 hL hS hl (q17 hlz).2.2 (fun b hb=>V0) hCK V0);have HW1:=Hi hw1;have HW2:=Hi hw2;have HW6:=Hi hw6;have HB6:=Hi hb06;have HR6:=Hi hR6;have HG:=Hi hg;obtain ⟨⟨e0,e1,e2,e3,e4,e5⟩,z0,z1,z2,z3,z4,z5⟩:=Blk.c6 hN6;obtain ⟨res,hres⟩:∃ res,stBs 0 l init=res:=⟨_,rfl⟩;rw [hres] at HPR ⊢;have hmm:1+nbzs l<=1099511627776:=V0;clear hT hL hS hl hlz hm hw1 hb1 hX1 hs1 hw2 hb2 hR2 hs2 hw3 hb3 hs3 hm3 hkb hm4 ht4 hs4 hu4 hw5 hb5 hs5 ho5 hob hw6 hb6 hX6 hg hb26 hb06 hR6 hN6 hK6 hO6 hCK hck hnb hrun hres;go_enter Tryz.func28,Tryz.ntmps28;go_upto_region 1 with fail
 rw [HW1.out];rw [show w1.alloc (.cells #[.slice none 0 0,.slice none 0 0,.slice none 0 0] 39)=w2 from HW2.out];go_upto_region 2 with fail
 rw [HW6.out,HG.out];go_wp2_with fail
 refine (show Calls Tryz.prog 59 #[.pointer (some ⟨g,0,none⟩),nzA k a s n A l.length cA B ps.length cB] w6 _ from HPR.out).mono ?_;intro e w7 h7;clear e0 e1 e2 e3 e4 e5 z0 z1 z2 z3 z4 z5 hmk1 hmk2 hrun';cases res with
 | bad a1=>
  obtain ⟨rfl,hu7⟩:=h7;have hR7:=HR6.out.upd hu7 V0;obtain ⟨q0,q1,q2,y0,y1,y2⟩:=Blk.c3 (show Blk w7 (w.heap.size+1) 39 #[.slice none 0 0,.slice none 0 0,.slice none 0 0] from hR7);have HB7:=Hi (HB6.out.trans (hu7.below HB6.out.size fun b hb=>V0));have hRR:=Blk.put3 (show Blk w7 (w.heap.size+1) 39 #[.slice none 0 0,.slice none 0 0,.slice none 0 0] from hR7) (.slice none 0 0) (.slice none 0 0) (.slice none 0 0);have HRR:=Hi hRR;have HEND:=Hi (show ChkP w (.bad a1) (.returned (.tuple #[.agg nil3,.int .i64 a1,.int .i64 120])) (((w7.setCell ⟨w.heap.size+1,0,none⟩ (.slice none 0 0)).setCell ⟨w.heap.size+1,1,none⟩ (.slice none 0 0)).setCell ⟨w.heap.size+1,2,none⟩ (.slice none 0 0)) from
   ⟨rfl,((HB7.out.setCell (p:=⟨w.heap.size+1,0,none⟩) (Nat.le_succ _) _).setCell (p:=⟨w.heap.size+1,1,none⟩) (Nat.le_succ _) _).setCell (p:=⟨w.heap.size+1,2,none⟩) (Nat.le_succ _) _⟩)
  clear hu7 hR7 hRR;go_wp2_with fail
  exact bodyPost_ret (v:=.tuple #[.agg nil3,.int .i64 a1,.int .i64 120]) (resNm HRR.out rfl _ rfl) rfl HEND.out
 | ok c=>
  obtain ⟨rfl,hc7,hu7⟩:=h7;have hR7:=HR6.out.upd hu7 V0;obtain ⟨q0,q1,q2,y0,y1,y2⟩:=Blk.c3 (show Blk w7 (w.heap.size+1) 39 #[.slice none 0 0,.slice none 0 0,.slice none 0 0] from hR7);have HB7:=Hi (HB6.out.trans (hu7.below HB6.out.size fun b hb=>V0));obtain ⟨⟨vs,vp,vo,ve,kb2,ob2,hv⟩,hbd7,_⟩:=hc7;have HBD:=Hi (show c.se.length<=1099511627776/\c.pu.length<=1099511627776/\c.ou.length<=1099511627776 from ⟨by have:=hbd7.1;omega,by have:=hbd7.2.1;omega,by have:=hbd7.2.2.1;omega⟩);clear hbd7;have c0:w7.cell? ⟨g,0,none⟩=some vs:=hv.blk.cell 0;have c1:w7.cell? ⟨g,1,none⟩=some vp:=hv.blk.cell 1;have c2:w7.cell? ⟨g,2,none⟩=some vo:=hv.blk.cell 2;obtain ⟨As,cs,rfl⟩:=q0x hv.os;obtain ⟨Ap,cp,rfl⟩:=q0x hv.op;obtain ⟨Ao,co,rfl⟩:=q0x hv.oo;have hlt:=hv.blk.lt;have hRR:=Blk.put3 (show Blk w7 (w.heap.size+1) 39 #[.slice none 0 0,.slice none 0 0,.slice none 0 0] from hR7) (.slice As c.se.length cs) (.slice Ap c.pu.length cp) (.slice Ao c.ou.length co);have HRR:=Hi hRR;have hun:Upd (fun b=>b=w.heap.size+1) w7 (((w7.setCell ⟨w.heap.size+1,0,none⟩ (.slice As c.se.length cs)).setCell ⟨w.heap.size+1,1,none⟩ (.slice Ap c.pu.length cp)).setCell ⟨w.heap.size+1,2,none⟩ (.slice Ao c.ou.length co)):=(((Upd.refl (fun b=>b=w.heap.size+1) w7).setCell (p:=⟨w.heap.size+1,0,none⟩) (fun _=>rfl) _).setCell (p:=⟨w.heap.size+1,1,none⟩) (fun _=>rfl) _).setCell (p:=⟨w.heap.size+1,2,none⟩) (fun _=>rfl) _;have hno:∀ b,w.heap.size+2<=b->¬ b=w.heap.size+1:=fun b hb=>V0
  have HEND:=Hi (show ChkP w (.ok c) (.returned (.tuple #[.agg #[.slice As c.se.length cs,.slice Ap c.pu.length cp,.slice Ao c.ou.length co],.int .i64 0,.int .i64 0])) (((w7.setCell ⟨w.heap.size+1,0,none⟩ (.slice As c.se.length cs)).setCell ⟨w.heap.size+1,1,none⟩ (.slice Ap c.pu.length cp)).setCell ⟨w.heap.size+1,2,none⟩ (.slice Ao c.ou.length co)) from
   ⟨_,_,_,rfl,⟨q5i (own_updV hv.os hun fun b hb=>hno b (own_atV hv.os b hb).1) V0,q5i (own_updV hv.op hun fun b hb=>hno b (own_atV hv.op b hb).1) V0,q5i (own_updV hv.oo hun fun b hb=>hno b (own_atV hv.oo b hb).1) V0,HBD.out⟩,HB7.out.trans (hun.below HB7.out.size fun b hb=>V0)⟩)
  clear hu7 hR7 hRR hv hun hno;go_wp2_with fail
  exact bodyPost_ret (v:=.tuple #[.agg #[.slice As c.se.length cs,.slice Ap c.pu.length cp,.slice Ao c.ou.length co],.int .i64 0,.int .i64 0]) (resNm HRR.out rfl _ rfl) rfl HEND.out
end Nm
namespace Ev
open Lx Args Pa Sh Go.Proofs.YtcgibpdjfgjldaaGreatDoor.Nm WMath Fl
section
attribute [local go_sem] Oper.semAt_some
/-! Names' words, as a map. -/
noncomputable def codU:Cod (BitVec 32):=Cod.of uV (fun x=>.lit (.int .u32 (x.toNat:Int))) (fun a b h=>by
  simp only [uV,Value.int.injEq,true_and] at h;exact BitVec.eq_of_toNat_eq V0) fun a b h=>by
  simp only [DataW.lit.injEq,Lit.int.injEq,true_and] at h;exact BitVec.eq_of_toNat_eq V0
abbrev MpU(w:World)(b n:Nat)(kn:Kn):Prop:=MpG codU w b n kn
theorem zU(w:World):(zeroValue 22).run Tryz.prog w = .ok (codU.enc 0) w:=by
 show _=Result.ok (uV 0) w;kernel_rfl
theorem uSc:Tryz.prog.underlying 77=some (.map 9 22):=V1
def putN(kn:Kn)(s:Bs)(x:BitVec 32):Kn:=fun t=>if t=s then some x else kn t
section
variable {w : World} {b n : Nat} {kn : Kn} {s : Bs}
theorem q7R(h:MpU w b n kn)(hs:s.length<=maxLen):(Instr.lookup 77 (.map (some b)) (.string ⟨s.toArray⟩) true).run Tryz.prog w = .ok (.tuple #[uV ((kn s).getD 0),.bool (kn s).isSome]) w:=h.look hs uSc (zU w)
theorem q6n(h:MpU w b n kn)(hs:s.length<=maxLen):(Instr.lookup 77 (.map (some b)) (.string ⟨s.toArray⟩) false).run Tryz.prog w = .ok (uV ((kn s).getD 0)) w:=h.look1 hs uSc (zU w)
theorem q6o(h:MpU w b n kn)(hs:s.length<=maxLen)(hn:n < maxLen)(m:BitVec 32) :
  ∃ w',(Instr.mapUpdate 77 (.map (some b)) (.string ⟨s.toArray⟩) (uV m)).run Tryz.prog w = .ok () w'/\MpU w' b (n+1) (putN kn s m)/\w.mapTurned w' b:=h.put hs hn uSc m
end
def knOf:List Bs->List (BitVec 32)->Kn
 | [],_=>fun _=>none
 | s :: l,ws=>putN (knOf l ws.tail) s (ws.headD 0)
def nmV(names:List Bs)(words:List (BitVec 32))(vs:List Nat):Kn:=vs.foldl (fun kn k=>putN kn (names.getD k []) (words.getD k 0)) fun _=>none
def dnl(L j:Nat):List Nat:=(List.range j).map (L - 1 - ·)
theorem q5j(L j:Nat):dnl L (j+1)=dnl L j ++ [L - 1 - j]:=by simp [dnl,List.range_succ]
theorem q5k(names:List Bs)(words:List (BitVec 32))(vs:List Nat)(k:Nat):nmV names words (vs ++ [k])=putN (nmV names words vs) (names.getD k []) (words.getD k 0):=by simp [nmV]
theorem q6p(names:List Bs)(words:List (BitVec 32)){k:Nat}{s:Bs}(h:names[k]?=some s):knOf (names.drop k) (words.drop k)=putN (knOf (names.drop (k+1)) (words.drop (k+1))) s (words.getD k 0):=by
 rw [drop_at h];show putN (knOf (names.drop (k+1)) (words.drop k).tail) s ((words.drop k).headD 0)=_;rw [List.tail_drop]
 congr 1
 rw [List.getD_eq_getElem?_getD,List.headD_eq_head?_getD,List.head?_drop]
theorem q6q(names:List Bs)(words:List (BitVec 32)):∀ j,j<=names.length->nmV names words (dnl names.length j)=knOf (names.drop (names.length - j)) (words.drop (names.length - j))
 | 0,_=>by rw [Nat.sub_zero,List.drop_length];rfl
 | j+1,h=>by
  rw [q5j,q5k,q6q names words j V0];obtain ⟨s,hs⟩:∃ s,names[names.length - 1 - j]?=some s:=⟨_,List.getElem?_eq_getElem V0⟩;have e:names.length - (j+1)=names.length - 1 - j:=V0;have e':names.length - j=names.length - 1 - j+1:=V0;rw [e,e',q6p names words hs]
  congr 1
  rw [List.getD_eq_getElem?_getD,hs];rfl
theorem nmV_all(names:List Bs)(words:List (BitVec 32)):nmV names words (dnl names.length names.length)=knOf names words:=by
 rw [q6q names words _ (Nat.le_refl _),Nat.sub_self];rfl
/-! Names, gone through backward. -/
theorem backS(A:Option Addr)(L c:Nat)(w:World):Calls Tryz.prog 74 #[.slice A L c] w fun e w'=>
  e = .returned (.func (.func 106) #[] #[.pointer (some ⟨w.heap.size,0,none⟩)])/\w'=w.alloc (.cells #[.slice A L c] 24):=by
 go_enter Tryz.func74,Tryz.ntmps74;go_wp2_with fail
 go_ret;exact ⟨rfl,rfl⟩
def KN(n0 mb:Nat)(W W':World):Prop:=∀ k,k < n0->k≠mb->W'.heap[k]?=W.heap[k]?
theorem kn_t{n0 mb:Nat}{A B C:World}(h:KN n0 mb A B)(k:KN n0 mb B C):KN n0 mb A C:=fun i h1 h2=>(k i h1 h2).trans (h i h1 h2)
theorem kn_b{mb:Nat}{w:World}(W:World)(l:Nat)(o o':Obj)(hl:w.heap.size<=l)(h:W.heap[l]?=some o)(_:o.isCells=false)(_:o.isWalk=false):KN w.heap.size mb W (W.putObj l o'):=
 fun k hk _=>World.putObj_heap_other V0
theorem q6r{n0 mb b:Nat}{W W':World}(h:KN n0 mb W W')(h1:b < n0)(h2:b≠mb)(o:Nat):W'.cell? ⟨b,o,none⟩=W.cell? ⟨b,o,none⟩:=World.cell?_of_block (h b h1 h2)
abbrev Pl(L:Nat):={ k:Nat // k < L }
def encN(names:List Bs)(x:Pl names.length):Array Value:=#[.int .i64 (x.val:Int),.string ⟨(names.getD x.val []).toArray⟩]
theorem q7S(n l Bs0 n0 mb:Nat)(hn:1<=n)(names:List Bs)(A:Option Addr)(c:Nat)(hl:names.length<=9223372036854775807)(hB1:Bs0 < n0)(hB2:Bs0≠mb)(J Jx:List (Pl names.length)->World->Prop)(W:World)
  (hY:∀ pre x W1,J pre W1->pre.length < names.length->YieldAt Fence.wide (n - 1) Tryz.prog l (encN names x) W1 fun e W'=>
   (e = .returned (.bool true)/\J (pre ++ [x]) W'/\KN n0 mb W1 W')\/(e = .returned (.bool false)/\Jx (pre ++ [x]) W'))
  (hBc:W.cell? ⟨Bs0,0,none⟩=some (.slice A names.length c))
  (hA:∀ i s,names[i]?=some s->∃ b o,A=some ⟨b,o,none⟩/\b < n0/\b≠mb/\W.cell? ⟨b,o+i,none⟩=some (.string ⟨s.toArray⟩)) (h0:J [] W) :
  CallsIn Fence.wide n Tryz.prog 106 #[.func (.yield l) #[] #[],.pointer (some ⟨Bs0,0,none⟩)] W fun e W'=>(∃ v,e = .returned v) /\
   ((∃ ys:List (Pl names.length),ys.map (·.val)=dnl names.length names.length/\J ys W')\/(∃ pre,True/\Jx pre W')):=by
 refine callsIn_of_wp Tryz.func106 rfl trivial ?_ rfl;simp only [Tryz.ntmps106,List.size_toArray,List.length_cons,List.length_nil,Nat.reduceAdd,Nat.reduceSub,Array.replicate_succ,Array.replicate_zero,List.push_toArray,List.append_toArray,List.nil_append,List.cons_append];have HA:=Hi hA;clear hA
 gi_wp2
 gi_loopw [3] (fun vr wr=>∃ j:Nat,j<=names.length/\vr = .int .i64 ((names.length:Int) - 1 - j)/\Hid (∃ pre:List (Pl names.length),pre.map (·.val)=dnl names.length j/\J pre wr)/\Hid (KN n0 mb W wr)) (fun vr _=>(intOf vr+1).toNat)
 case atStart=>exact ⟨0,V0,V3,Hi ⟨[],rfl,h0⟩,Hi fun _ _ _=>rfl⟩
 case round=>
  obtain ⟨j,hj,rfl,HJ,HK⟩:=hrel;by_cases hlt:j < names.length
  ·obtain ⟨pre,hpre,hJ⟩:=HJ.out;have hpl:pre.length=j:=by
    have:=congrArg List.length hpre;simpa [dnl] using this
   obtain ⟨s,hs⟩:∃ s,names[names.length - 1 - j]?=some s:=⟨_,List.getElem?_eq_getElem V0⟩;obtain ⟨b,o,rfl,hb1,hb2,hce⟩:=HA.out _ _ hs;have hc0:wr.cell? ⟨Bs0,0,none⟩=some (.slice (some ⟨b,o,none⟩) names.length c):=(q6r HK.out hB1 hB2 0).trans hBc;have hc1:wr.cell? ⟨b,o+(names.length - 1 - j),none⟩=some (.string ⟨s.toArray⟩):=(q6r HK.out hb1 hb2 _).trans hce;obtain ⟨fn,tmps,assign,body,hy,hR⟩:=hY pre ⟨names.length - 1 - j,V0⟩ wr hJ V0;have hgs:names.getD (names.length - 1 - j) []=s:=by rw [List.getD_eq_getElem?_getD,hs];rfl
   unfold encN at hy;dsimp only at hy;rw [hgs] at hy;have hi:((names.length - 1 - j:Nat):Int)=(names.length:Int) - 1 - j:=V0;rw [hi] at hy;have hge:decide ((names.length:Int) - 1 - (j:Int) ≥ 0)=true:=V4;have hnat:((names.length:Int) - 1 - (j:Int)).toNat=names.length - 1 - j:=V0;have HPRE:=Hi hpre;have HJ2:=Hi hlt;clear hpre hJ hs hce hgs
   gi_wp2
   refine hR.mono ?_;rintro e W3 (⟨rfl,hJ3,hk3⟩ | ⟨rfl,hJx3⟩)
   ·gi_wp2
    go_roundw
    case rel=>exact ⟨j+1,HJ2.out,by push_cast;first | omega | (congr 1;omega),Hi ⟨_,by rw [List.map_append,HPRE.out,q5j];rfl,hJ3⟩,Hi (kn_t HK.out hk3)⟩
    case measure=>simp [intOf];omega
   ·gi_wp2
    refine bodyPost_ret (results_none rfl _ _ _) rfl ?_;exact ⟨⟨_,rfl⟩,.inr ⟨_,trivial,hJx3⟩⟩
  ·obtain rfl:j=names.length:=by omega
   have hge:decide ((names.length:Int) - 1 - (names.length:Int) ≥ 0)=false:=V4
   gi_wp2
   go_end0
   exact ⟨⟨_,rfl⟩,.inl HJ.out⟩
theorem q5K{l n:Nat}{P:Program}{ops:Array Oper}{Q:Exit->Act->World->Prop}{Z S:World->Prop}{st:List Nat}{id:Nat}{a:Act}{w:World}(hm:P.follows .mixedOrders=true)(hd:Rd.noDefer ops=true)(hQ:¬ LetsOut Q)
  (h:HT.anyT P .any ops Q Z S st ops.size (Array.replicate ops.size false) a w.drew):(Code.region id ops true).wpIn (Fence.wide.inRound l) n P Q a w:=
 wpIn_region_any hm (Rd.any_in hd hQ _ _ _ _ (HT.any_of _ _ _ _ h))
def NmI(w:World)(names:List Bs)(words:List (BitVec 32))(A2:Option Addr)(c2:Nat)(pre:List (Pl names.length))(W:World):Prop:=
 Below w.heap.size w W/\Blk W w.heap.size 44 #[.slice A2 words.length c2]/\Blk W (w.heap.size+2) 77 #[.map (some (w.heap.size+1))]/\MpU W (w.heap.size+1) pre.length (nmV names words (pre.map (·.val)))/\w.heap.size+4<=W.heap.size
theorem nmI_own(w:World)(names:List Bs)(words:List (BitVec 32))(A2:Option Addr)(c2:Nat):OwnFrom (w.heap.size+4) (NmI w names words A2 c2):=fun pre A W row ⟨h1,h2,h3,h4,h5⟩ hg hr=>
 ⟨q2e h1 hg hr V0 h1.size,q0Q h2 hg hr,q0Q h3 hg hr,h4.heap (hg.block _ h4.lt (fun e=>by have:=(hr _ e.symm).1;omega)),Nat.le_trans h5 hg.size⟩
theorem q47{n0 mb:Nat}{W W':World}(h:W.mapTurned W' mb)(hmb:mb < n0):KeepsFrom n0 W W'/\KN n0 mb W W':=by
 have hg:=h.grown;refine ⟨KeepsFrom.of_grownBy hg fun j e=>by cases e;exact hmb,fun k _ h2=>?_⟩;by_cases hk:k < W.heap.size
 ·exact hg.block k hk fun e=>h2 Vu
 ·have:=q1M h;rw [Array.getElem?_eq_none V0,Array.getElem?_eq_none V0]
theorem named(w:World)(names:List Bs)(words:List (BitVec 32))(A:Option Addr)(c:Nat)(A2:Option Addr)(c2:Nat)(hA:Lies w A (names.map strV))(hn:∀ s∈names,s.length<=maxLen)(hl:names.length<=100)(hB:Lies w A2 (words.map uV))(hl2:words.length<=9223372036854775807) :
  Calls Tryz.prog 35 #[.slice A names.length c,.slice A2 words.length c2] w fun e w'=>∃ mb,e = .returned (.map (some mb))/\MpU w' mb names.length (knOf names words)/\Below w.heap.size w w':=by
 obtain ⟨w1,hw1⟩:∃ u,w.alloc (.cells #[.slice A2 words.length c2] 44)=u:=⟨_,rfl⟩;have hs1:w1.heap.size=w.heap.size+1:=by rw [<-hw1];simp
 obtain ⟨w2,hw2⟩:∃ u,w1.alloc (.map #[] 0)=u:=⟨_,rfl⟩;have hs2:w2.heap.size=w.heap.size+2:=V0o;obtain ⟨w3,hw3⟩:∃ u,w2.alloc (.cells #[.map (some (w.heap.size+1))] 77)=u:=⟨_,rfl⟩;have hs3:w3.heap.size=w.heap.size+3:=V24;obtain ⟨w4,hw4⟩:∃ u,w3.alloc (.cells #[.slice A names.length c] 24)=u:=⟨_,rfl⟩;have hs4:w4.heap.size=w.heap.size+4:=by rw [<-hw4];simp [hs3]
 have hmk:(Instr.makeMap 77 none).run Tryz.prog w1 = .ok (.map (some (w.heap.size+1))) w2:=V1J;have hb1:Below w.heap.size w w1:=V46;have hb2:Below w.heap.size w w2:=Vg;have hb3:Below w.heap.size w w3:=by rw [<-hw3];exact hb2.alloc hb2.size _
 have hb4:Below w.heap.size w w4:=by rw [<-hw4];exact hb3.alloc hb3.size _
 have hX1:Blk w1 w.heap.size 44 #[.slice A2 words.length c2]:=by rw [<-hw1];exact Blk.new _ _ _
 have hX3:Blk w3 (w.heap.size+2) 77 #[.map (some (w.heap.size+1))]:=by
  have:=Blk.new w2 77 #[.map (some (w.heap.size+1))];rw [hs2,hw3] at this;exact this
 have hX4:Blk w4 (w.heap.size+3) 24 #[.slice A names.length c]:=by
  have:=Blk.new w3 24 #[.slice A names.length c];rw [hs3,hw4] at this;exact this
 have hM2:MpU w2 (w.heap.size+1) 0 (fun _=>none):=by
  have:=MpG.made codU w1;rw [hs1,hw2] at this;exact this
 have hI:NmI w names words A2 c2 [] w4:=by
  refine ⟨hb4,?_,?_,?_,V0⟩
  ·rw [<-hw4,<-hw3,<-hw2];exact ((hX1.alloc _).alloc _).alloc _
  ·rw [<-hw4];exact hX3.alloc _
  ·have h3:=hM2.upd (X:=fun _=>False) (Upd.of_below (show Below w2.heap.size w2 w4 by rw [<-hw4,<-hw3];exact ((Below.refl _ _).alloc (Nat.le_refl _) _).alloc V3 _) fun _=>False) id;exact h3
 have hAt:∀ i s,names[i]?=some s->∃ b o,A=some ⟨b,o,none⟩/\b < w4.heap.size/\b≠w.heap.size+1/\w4.cell? ⟨b,o+i,none⟩=some (.string ⟨s.toArray⟩):=fun i s hs=>by
  have f1:(names.map strV)[i]?=some (.string ⟨s.toArray⟩):=by rw [List.getElem?_map,hs];rfl
  obtain ⟨b,o,hAe,hbl,hc1⟩:=hA.at_ f1;have hbl2:b < w.heap.size:=hbl;exact ⟨b,o,hAe,V0,V0,(hb4.cell (p:=⟨b,o+i,none⟩) hbl2).trans (hc1 _ _ f1)⟩
 have hmk':(Instr.makeMap 77 none).run Tryz.prog (w.alloc (.cells #[.slice A2 words.length c2] 44)) = .ok (.map (some (w.heap.size+1))) ((w.alloc (.cells #[.slice A2 words.length c2] 44)).alloc (.map #[] 0)):=by rw [hw1,hw2];exact hmk
 have HBK:=Hi (backS A names.length c w3);have HW1:=Hi hw1;have HW2:=Hi hw2;have HW3:=Hi hw3;have HW4:=Hi hw4;have HI:=Hi hI;have HX4:=Hi hX4;have HAT:=Hi hAt;have HS4:=Hi hs4;have HN:=Hi hn;have HLB:=Hi hB;have HS3:=Hi hs3;clear hw1 hw2 hw3 hw4 hmk hb1 hb2 hb3 hb4 hX1 hX3 hX4 hM2 hI hAt hA hB hn hs1 hs2;refine (callsIn_wide (n:=3)).1 ?_;refine callsIn_of_wp_marks Tryz.func35 rfl trivial ?_ rfl;simp only [Tryz.ntmps35,List.size_toArray,List.length_cons,List.length_nil,Nat.reduceAdd,Nat.reduceSub,Array.replicate_succ,Array.replicate_zero,List.push_toArray,List.append_toArray,List.nil_append,List.cons_append]
 gi_wp2_with (refine ⟨trivial,?_⟩;gi_at_call 74;rw [HW1.out,HW2.out,HW3.out];refine (callsIn_wide.2 HBK.out).mono ?_;rintro e w' ⟨rfl,hw2⟩;rw [HW4.out] at hw2;obtain rfl:w4=w':=hw2.symm)
 simp only [Nat.add_assoc,Nat.reduceAdd];refine wpIn_rangeFunc_ownG (n:=3) (w:=w4) (α:=Pl names.length) rfl V2 (gf:=106) (lb:=#[.pointer (some ⟨w.heap.size+3,0,none⟩)]) rfl trivial (enters_of Tryz.func106 V1 rfl)
  (encs:=encN names) (Kp:=KN w4.heap.size (w.heap.size+1)) (S:=fun ys=>ys.map (·.val)=dnl names.length names.length) (Sp:=fun _=>True) (N:=names.length) (w0:=w4)
  (fun l J Jx W hW _ _ hY h0=>q7S 2 l (w.heap.size+3) w4.heap.size (w.heap.size+1) V2 names A c V0 (by have:=HS4.out;omega) V0 J Jx W hY
   ((hW.cell (p:=⟨w.heap.size+3,0,none⟩) (by have:=HS4.out;show w.heap.size+3 < w4.heap.size;omega)).trans (HX4.out.cell 0))
   (fun i s hs=>by
    obtain ⟨b,o,h1,h2,h3,h4⟩:=HAT.out i s hs;exact ⟨b,o,h1,h2,h3,(hW.cell (p:=⟨b,o+i,none⟩) h2).trans h4⟩) h0)
  kn_t (fun W l o o' h1 h2 h3 h4=>kn_b W l o o' h1 h2 h3 h4) (Below.refl _ _) (fun _=>rfl)
  (NmI w names words A2 c2) (fun _ _ _=>False) (by rw [HS4.out];exact nmI_own w names words A2 c2) (fun _ _ _ _ _ hs _ _=>hs) HI.out
  (fun x=>{ tmps:=#[.slice A names.length c,.slice A2 words.length c2,undef,.pointer (some ⟨w.heap.size,0,none⟩),.map none,.pointer (some ⟨w.heap.size+2,0,none⟩),.int .i64 (x.val:Int),.string ⟨(names.getD x.val []).toArray⟩,
    .map (some (w.heap.size+1)),.slice A names.length c,.func (.func 106) #[] #[.pointer (some ⟨w.heap.size+3,0,none⟩)],.int .i64 (x.val:Int),.string ⟨(names.getD x.val []).toArray⟩,undef,undef,undef,undef,undef,undef],defers:=[] })
  ?assign ?body ?done ?stop
 case assign=>
  intro l x W K hK;unfold encN
  gi_wp2
  exact hK
 case body=>
  rintro l pre ⟨k,hk⟩ W ⟨h1,h2,h3,h4,h5⟩ hlt;have hmx:Tryz.prog.follows .mixedOrders=true:=V1;obtain ⟨s,hs⟩:∃ s,names[k]?=some s:=⟨_,List.getElem?_eq_getElem hk⟩;have hgs:names.getD k []=s:=by rw [List.getD_eq_getElem?_getD,hs];rfl
  have hsl:s.length<=maxLen:=HN.out s (List.mem_of_getElem? hs);dsimp only;rw [hgs];have hdr:Below W.heap.size W W.drew:=Below.drew (Below.refl _ _);obtain ⟨wd,hwd⟩:∃ v,W.drew=v:=⟨_,rfl⟩;rw [hwd] at hdr;have H2:=Hi (h2.below hdr h2.lt);have H3:=Hi (h3.below hdr h3.lt);have HMd:=Hi (h4.upd (X:=fun _=>False) (Upd.of_below hdr fun _=>False) id);have HAU:=Hi (atU wd A2 c2 words ((HLB.out.below h1).below hdr) k hl2);have HFIN:=Hi (show ∀ w',wd.mapTurned w' (w.heap.size+1)->MpU w' (w.heap.size+1) (pre.length+1) (putN (nmV names words (pre.map (·.val))) s (words.getD k 0))->KeepsFrom w4.heap.size W w'/\KN w4.heap.size (w.heap.size+1) W w'/\NmI w names words A2 c2 (pre ++ [⟨k,hk⟩]) w' from fun w' ht hm=>by
   have hkf:=q47 (n0:=w4.heap.size) ht (by have:=HS4.out;omega);have hd:KeepsFrom w4.heap.size W wd/\KN w4.heap.size (w.heap.size+1) W wd:=by rw [<-hwd];exact ⟨(KeepsOthers.drew W).from _,fun _ _ _=>rfl⟩
   have hu:=q07 (X:=(·=w.heap.size+1)) ht rfl;have hsz:=q1M ht;refine ⟨hd.1.trans hkf.1,kn_t hd.2 hkf.2,(h1.trans (hdr.mono h1.size)).grown ht.grown (by rw [<-hwd];exact h1.size) (fun k e=>Vb),(h2.below hdr h2.lt).upd hu V0,(h3.below hdr h3.lt).upd hu V0,?_,by rw [hsz,<-hwd];exact h5⟩;rw [List.length_append,List.map_append];show MpU w' _ (pre.length+1) (nmV names words (pre.map (·.val) ++ [k]));rw [q5k,hgs];exact hm)
  generalize words.getD k 0=x2 at HAU HFIN;clear hs hgs hdr h1 h2 h3 h4
  gi_wp2
  refine q5K (Z:=fun w'=>Upd (·=w.heap.size+1) wd w') (S:=fun _=>True) (st:=[]) hmx V1 (fun ⟨_,_,h⟩=>h) ?_;rw [hwd];clear hwd;have hZ0:Upd (·=w.heap.size+1) wd wd:=Upd.refl _ _;refine HT.k 0 rfl (by intro v hSw;have hc:=(H3.out.upd hSw V0).cell 0;simp only [List.getElem?_toArray,List.getElem?_cons_zero] at hc;clear hSw;go_simp;try with_reducible rfl) hZ0 ?_;refine HT.m 1 hZ0 ?_;refine HT.k 2 rfl (by intro v hSw;have hc:=(H2.out.upd hSw V0).cell 0;simp only [List.getElem?_toArray,List.getElem?_cons_zero] at hc;clear hSw;go_simp;try with_reducible rfl) hZ0 ?_;refine HT.m 3 hZ0 ?_;refine HT.one (i:=4) V1 rfl (fun K hK=>?_);go_simp;refine (show Calls Tryz.prog 75 #[.slice A2 words.length c2,.int .i64 (k:Int)] wd _ from HAU.out).mono ?_;rintro e w5 ⟨rfl,rfl⟩;(try dsimp only);refine hK.out _ _ hZ0 trivial ?_;clear hK K;(try simp only [HT.pS]);obtain ⟨w6,hrun,hm6,ht6⟩:=q6o HMd.out hsl (by have:=hlt;show pre.length < maxLen;have:names.length<=100:=hl;simp only [maxLen];omega) x2;refine HT.one (i:=5) V1 rfl (fun K hK=>?_);go_simp;(try dsimp only);refine hK.out _ _ (q07 ht6 rfl) trivial ?_;clear hK K;(try simp only [HT.pS]);refine HT.done V1 ?_
  gi_wp2
  exact HFIN.out _ ht6 hm6
 case done=>
  rintro D xs W hD hxs ⟨h1,h2,h3,h4,h5⟩ hK;have hlen:xs.length=names.length:=by
   have:=congrArg List.length hxs;simpa [dnl] using this
  rw [hxs,nmV_all,hlen] at h4;have f3:=h3.cell 0;simp only [List.getElem?_toArray,List.getElem?_cons_zero] at f3;have hgr:=grownBy_putObj' W D (.deferred none);have hDs:w.heap.size+4<=D:=by have:=HS4.out;omega
  have jb:=q2e h1 hgr (fun r e=>by cases e;exact ⟨hDs,_,hK,rfl⟩) V0 h1.size;have jm:=h4.heap (hgr.block _ h4.lt (fun e=>Vb));have JB:=Hi jb;have JM:=Hi jm;have KD:=Hi hK;clear h1 h2 h3 h4 hgr jb jm hK hD
  gi_wp2
  refine ⟨V3,.inl ⟨_,_,rfl,run_takeDeferred KD.out,?_⟩⟩;exact ⟨_,results_tmp rfl _ _ _,⟨_,rfl,JM.out,JB.out⟩⟩
 case stop=>intro D c pre W _ _ h _;exact h.elim
end
end Ev
end Go.Proofs.YtcgibpdjfgjldaaGreatDoor
