/- DERIVED. NmChk, FlLb, FlLaw, FlLaw2, FlAr. By an AI agent. -/
import Derived.Test.YtcgibpdjfgjldaaGreatDoorQ01
import Derived.Test.YtcgibpdjfgjldaaGreatDoorQ33
import Derived.Carry
import Derived.Deep.Cut
import Derived.Test.YtcgibpdjfgjldaaGreatDoorQ03
import Derived.Test.YtcgibpdjfgjldaaGreatDoorQ11
import Derived.Test.YtcgibpdjfgjldaaGreatDoorQ32
set_option maxRecDepth 100000
set_option maxHeartbeats 4000000
set_option linter.unusedVariables false
set_option linter.unusedSimpArgs false
namespace Go.Proofs.YtcgibpdjfgjldaaGreatDoor.Nm
open Go Go.ChangeShapes Go.WideShapes Go.ChangeAt Go.RowKit Lx Args Pa Sh
theorem turned_size{w w':World}{b:Nat}(h:w.mapTurned w' b):w'.heap.size=w.heap.size:=by
 obtain ⟨es,clock,es',clock',_,rfl⟩:=h;simp [ChangeMaps.setBlock]
def nil3:Array Value:=#[.slice none 0 0,.slice none 0 0,.slice none 0 0]
def NaP(lo:Nat)(w:World)(vs vp vo:Value)(c:St):Prop:=
 w.ownsRow lo 9 1 vs c.se.length (c.se.map strV)∧w.ownsRow lo 9 1 vp c.pu.length (c.pu.map strV)∧w.ownsRow lo 36 3 vo c.ou.length (c.ou.flatMap laC)∧c.se.length≤1099511627776∧c.pu.length≤1099511627776∧c.ou.length≤1099511627776
def ChkP(w:World)(r:Rs)(e:Ending)(w':World):Prop:=
 match r with
 | .ok c=>∃ vs vp vo,e = .returned (.tuple #[.agg #[vs,vp,vo],.int .i64 0,.int .i64 0])∧NaP w.heap.size w' vs vp vo c∧Below w.heap.size w w'
 | .bad a=>e = .returned (.tuple #[.agg nil3,.int .i64 a,.int .i64 120])∧Below w.heap.size w w'
theorem szNm:(Tryz.prog.info? 39).map (·.size)=some 3:=by kernel_rfl
theorem results_ctt{fn:Func}{p q r:Tmp}{tx:TypeId}(h:fn.results = #[.cell p tx,.tmp q,.tmp r]){P:Program}(tmps:Array Value)(w:World)(g1:Nat)(v1:Value)
  (hp:tmps.getD p undef = .pointer (some ⟨g1,0,none⟩)) (h1:(loadVar tx ⟨g1,0,none⟩).run P w = .ok v1 w) :
  (results fn tmps).run P w = .ok (.tuple #[v1,tmps.getD q undef,tmps.getD r undef]) w:=by
 have hp':tmps[p]?.getD undef = .pointer (some ⟨g1,0,none⟩):=by simpa using hp
 simp [results,h,hp',asAddr,h1]
theorem resNm{g:Nat}{n:Array Value}{W:World}(hN:Blk W g 39 n)(hs:some 3=some n.size)(tmps:Array Value)(h2:tmps.getD 2 undef = .pointer (some ⟨g,0,none⟩)) :
  (results Tryz.f28 tmps).run Tryz.prog W = .ok (.tuple #[.agg n,tmps.getD 3 undef,tmps.getD 4 undef]) W:=
 results_ctt rfl tmps W g (.agg n) h2 (run_loadVar_row W g 39 39 n (0,0) _ hN Tryz.underlying39 rfl (szNm.trans hs))
theorem own_lo{w:World}{lo lo':Nat}{e:TypeId}{size n:Nat}{v:Value}{xs:List Value}(h:w.ownsRow lo e size v n xs)(hl:lo'≤lo):w.ownsRow lo' e size v n xs:=⟨h.1,h.2.imp id fun ⟨g,cap,cur,a,b,r⟩=>⟨g,cap,cur,a,Nat.le_trans hl b,r⟩⟩
theorem first_ck{w:World}{lo kb ob g:Nat}(hg:Blk w g 109 #[.slice none 0 0,.slice none 0 0,.slice none 0 0,.map (some kb),.map (some ob),.slice none 0 0])(hk:MpK w kb 1 init.kn)(ho:MpS w ob 0 (fun _=>false))(hlo:lo≤kb∧kb < ob∧ob < g):CK (fun b=>lo≤b) lo w g init 1:=by
 refine ⟨⟨_,_,_,_,kb,ob,hg,World.ownsRow_nil _ _ _ _,World.ownsRow_nil _ _ _ _,World.ownsRow_nil _ _ _ _,World.ownsRow_nil _ _ _ _,hk,ho.mono (by decide),?_,?_,by omega,by omega,by omega,by have:=hg.lt;omega⟩,⟨Nat.zero_le _,Nat.zero_le _,Nat.zero_le _,Nat.zero_le _⟩,fun s hs=>by cases hs⟩
 ·have h1:g≠kb:=by omega
  have h2:g≠ob:=by omega
  have h3:kb≠ob:=by omega
  unfold Dis;simp [Value.ownBlock,h1,h2,h3,Ne.symm h1,Ne.symm h2,Ne.symm h3]
 ·intro x hx b hb;simp only [List.mem_cons,List.not_mem_nil,or_false] at hx;rcases hx with rfl | rfl | rfl | rfl | rfl | rfl | rfl
  ·cases hb;omega
  ·cases hb;omega
  ·cases hb;omega
  ·cases hb
  ·cases hb
  ·cases hb
  ·cases hb
theorem check(z:Tz)(hlz:lenz z)(hm:nbz z≤1099511627776)(w:World)(k a:Int)(s:Bs)(n:Nat)(A:Option Addr)(la cA:Nat)(B:Option Addr)(lb cB:Nat)(hT:TIc True w z (nzC k a s n A la cA B lb cB)) :
  Calls Tryz.prog 28 #[nzA k a s n A la cA B lb cB] w (ChkP w (ckB z)):=by
 obtain ⟨k1,a1,s1,n1,ps,l⟩:=z;obtain ⟨rfl,rfl,rfl,rfl,rfl,rfl,hl,_,_,css,hL,hS⟩:=tIz_parts hT;have hck:ckB (.mk k a s n ps l)=stBs 0 l init:=rfl;rw [hck];obtain ⟨w1,hw1,hb1,hX1,hs1⟩:=a_box w (nB k a s n A l.length cA B ps.length cB);obtain ⟨w2,hw2⟩:∃ w2,w1.alloc (.cells nil3 39)=w2:=⟨_,rfl⟩;have hb2:Below w1.heap.size w1 w2:=by rw [←hw2];exact (Below.refl _ _).alloc (Nat.le_refl _) _
 have hR2:Blk w2 w1.heap.size 39 nil3:=by rw [←hw2];exact Blk.new _ _ _
 have hs2:w2.heap.size=w1.heap.size+1:=by rw [←hw2];simp
 rw [hs1] at hR2;obtain ⟨w3,hw3⟩:∃ w3,w2.alloc (.map #[] 0)=w3:=⟨_,rfl⟩;have hb3:Below w2.heap.size w2 w3:=by rw [←hw3];exact (Below.refl _ _).alloc (Nat.le_refl _) _
 have hs3:w3.heap.size=w2.heap.size+1:=by rw [←hw3];simp
 have hm3:MpK w3 w2.heap.size 0 (fun _=>none):=by rw [←hw3];exact MpK.made w2
 obtain ⟨kb,hkb⟩:∃ kb,w2.heap.size=kb:=⟨_,rfl⟩;have hmk1:(Instr.makeMap 105 none).run Tryz.prog w2 = .ok (.map (some kb)) w3:=by rw [←hw3,←hkb];exact run_makeMap _ _
 rw [hkb] at hm3;obtain ⟨w4,hrun,hm4,ht4⟩:=hm3.put (s:=sel) (by decide) (by decide) (1,3) (by decide) (by decide);have hrun':(Instr.mapUpdate 105 (.map (some kb)) (.string ⟨#[115,101,108]⟩) (.agg #[.int .i64 1,.int .i64 3])).run Tryz.prog w3 = .ok () w4:=hrun;have hs4:=turned_size ht4;have hu4:Upd (fun b=>b=kb) w3 w4:=turned_upd ht4 rfl;obtain ⟨w5,hw5⟩:∃ w5,w4.alloc (.map #[] 0)=w5:=⟨_,rfl⟩;have hb5:Below w4.heap.size w4 w5:=by rw [←hw5];exact (Below.refl _ _).alloc (Nat.le_refl _) _
 have hs5:w5.heap.size=w4.heap.size+1:=by rw [←hw5];simp
 have ho5:MpS w5 w4.heap.size 0 (fun _=>false):=by rw [←hw5];exact MpS.made w4
 obtain ⟨ob,hob⟩:∃ ob,w4.heap.size=ob:=⟨_,rfl⟩;have hmk2:(Instr.makeMap 107 none).run Tryz.prog w4 = .ok (.map (some ob)) w5:=by rw [←hw5,←hob];exact run_makeMap _ _
 rw [hob] at ho5;obtain ⟨w6,hw6⟩:∃ w6,w5.alloc (.cells #[.slice none 0 0,.slice none 0 0,.slice none 0 0,.map (some kb),.map (some ob),.slice none 0 0] 109)=w6:=⟨_,rfl⟩;have hb6:Below w5.heap.size w5 w6:=by rw [←hw6];exact (Below.refl _ _).alloc (Nat.le_refl _) _
 have hX6:Blk w6 w5.heap.size 109 #[.slice none 0 0,.slice none 0 0,.slice none 0 0,.map (some kb),.map (some ob),.slice none 0 0]:=by rw [←hw6];exact Blk.new _ _ _
 obtain ⟨g,hg⟩:∃ g,w5.heap.size=g:=⟨_,rfl⟩;rw [hg] at hX6;have hb26:Upd (fun b=>b=kb) w2 w6:=(((Upd.of_below hb3 _).trans hu4).trans (Upd.of_below hb5 _)).trans (Upd.of_below hb6 _);have hb06:Below w.heap.size w w6:=(hb1.trans (hb2.mono hb1.size)).trans (hb26.below (by omega) fun b hb=>by omega);have hR6:Blk w6 (w.heap.size+1) 39 nil3:=hR2.upd hb26 (by omega);have hN6:Blk w6 w.heap.size 26 (nB k a s n A l.length cA B ps.length cB):=(hX1.below hb2 hX1.lt).upd hb26 (by omega);have hK6:MpK w6 kb 1 init.kn:=(hm4.upd (Upd.of_below hb5 fun _=>False) id).upd (Upd.of_below hb6 fun _=>False) id;have hO6:MpS w6 ob 0 (fun _=>false):=ho5.upd (Upd.of_below hb6 fun _=>False) id;have hCK:CK (fun b=>w.heap.size+2≤b) (w.heap.size+2) w6 g init 1:=first_ck hX6 hK6 hO6 (by omega);have hnb:nbz (.mk k a s n ps l)=ps.length+1+nbzs l:=rfl;have HPR:=Hi (program w w6 (fun b=>w.heap.size+2≤b) (w.heap.size+2) g init 1 k a s n A cA B ps.length cB l css hb06 hL hS hl (lenz_parts hlz).2.2 (fun b hb=>by omega) hCK (by omega));have HW1:=Hi hw1;have HW2:=Hi hw2;have HW6:=Hi hw6;have HB6:=Hi hb06;have HR6:=Hi hR6;have HG:=Hi hg;obtain ⟨⟨e0,e1,e2,e3,e4,e5⟩,z0,z1,z2,z3,z4,z5⟩:=Blk.c6 hN6;obtain ⟨res,hres⟩:∃ res,stBs 0 l init=res:=⟨_,rfl⟩;rw [hres] at HPR ⊢;have hmm:1+nbzs l≤1099511627776:=by omega
 clear hT hL hS hl hlz hm hw1 hb1 hX1 hs1 hw2 hb2 hR2 hs2 hw3 hb3 hs3 hm3 hkb hm4 ht4 hs4 hu4 hw5 hb5 hs5 ho5 hob hw6 hb6 hX6 hg hb26 hb06 hR6 hN6 hK6 hO6 hCK hck hnb hrun hres;go_enter Tryz.func28,Tryz.ntmps28;go_upto_region 1 with fail
 rw [HW1.out];rw [show w1.alloc (.cells #[.slice none 0 0,.slice none 0 0,.slice none 0 0] 39)=w2 from HW2.out];go_upto_region 2 with fail
 rw [HW6.out,HG.out];go_wp2_with fail
 refine (show Calls Tryz.prog 59 #[.pointer (some ⟨g,0,none⟩),nzA k a s n A l.length cA B ps.length cB] w6 _ from HPR.out).mono ?_;intro e w7 h7;clear e0 e1 e2 e3 e4 e5 z0 z1 z2 z3 z4 z5 hmk1 hmk2 hrun';cases res with
 | bad a1=>
  obtain ⟨rfl,hu7⟩:=h7;have hR7:=HR6.out.upd hu7 (by omega);obtain ⟨q0,q1,q2,y0,y1,y2⟩:=Blk.c3 (show Blk w7 (w.heap.size+1) 39 #[.slice none 0 0,.slice none 0 0,.slice none 0 0] from hR7);have HB7:=Hi (HB6.out.trans (hu7.below HB6.out.size fun b hb=>by omega));have hRR:=Blk.put3 (show Blk w7 (w.heap.size+1) 39 #[.slice none 0 0,.slice none 0 0,.slice none 0 0] from hR7) (.slice none 0 0) (.slice none 0 0) (.slice none 0 0);have HRR:=Hi hRR;have HEND:=Hi (show ChkP w (.bad a1) (.returned (.tuple #[.agg nil3,.int .i64 a1,.int .i64 120])) (((w7.setCell ⟨w.heap.size+1,0,none⟩ (.slice none 0 0)).setCell ⟨w.heap.size+1,1,none⟩ (.slice none 0 0)).setCell ⟨w.heap.size+1,2,none⟩ (.slice none 0 0)) from
   ⟨rfl,((HB7.out.setCell (p:=⟨w.heap.size+1,0,none⟩) (Nat.le_succ _) _).setCell (p:=⟨w.heap.size+1,1,none⟩) (Nat.le_succ _) _).setCell (p:=⟨w.heap.size+1,2,none⟩) (Nat.le_succ _) _⟩)
  clear hu7 hR7 hRR;go_wp2_with fail
  exact bodyPost_ret (v:=.tuple #[.agg nil3,.int .i64 a1,.int .i64 120]) (resNm HRR.out rfl _ rfl) rfl HEND.out
 | ok c=>
  obtain ⟨rfl,hc7,hu7⟩:=h7;have hR7:=HR6.out.upd hu7 (by omega);obtain ⟨q0,q1,q2,y0,y1,y2⟩:=Blk.c3 (show Blk w7 (w.heap.size+1) 39 #[.slice none 0 0,.slice none 0 0,.slice none 0 0] from hR7);have HB7:=Hi (HB6.out.trans (hu7.below HB6.out.size fun b hb=>by omega));obtain ⟨⟨vs,vp,vo,ve,kb2,ob2,hv⟩,hbd7,_⟩:=hc7;have HBD:=Hi (show c.se.length≤1099511627776∧c.pu.length≤1099511627776∧c.ou.length≤1099511627776 from ⟨by have:=hbd7.1;omega,by have:=hbd7.2.1;omega,by have:=hbd7.2.2.1;omega⟩);clear hbd7;have c0:w7.cell? ⟨g,0,none⟩=some vs:=hv.blk.cell 0;have c1:w7.cell? ⟨g,1,none⟩=some vp:=hv.blk.cell 1;have c2:w7.cell? ⟨g,2,none⟩=some vo:=hv.blk.cell 2;obtain ⟨As,cs,rfl⟩:=own_sl hv.os;obtain ⟨Ap,cp,rfl⟩:=own_sl hv.op;obtain ⟨Ao,co,rfl⟩:=own_sl hv.oo;have hlt:=hv.blk.lt;have hRR:=Blk.put3 (show Blk w7 (w.heap.size+1) 39 #[.slice none 0 0,.slice none 0 0,.slice none 0 0] from hR7) (.slice As c.se.length cs) (.slice Ap c.pu.length cp) (.slice Ao c.ou.length co);have HRR:=Hi hRR;have hun:Upd (fun b=>b=w.heap.size+1) w7 (((w7.setCell ⟨w.heap.size+1,0,none⟩ (.slice As c.se.length cs)).setCell ⟨w.heap.size+1,1,none⟩ (.slice Ap c.pu.length cp)).setCell ⟨w.heap.size+1,2,none⟩ (.slice Ao c.ou.length co)):=(((Upd.refl (fun b=>b=w.heap.size+1) w7).setCell (p:=⟨w.heap.size+1,0,none⟩) (fun _=>rfl) _).setCell (p:=⟨w.heap.size+1,1,none⟩) (fun _=>rfl) _).setCell (p:=⟨w.heap.size+1,2,none⟩) (fun _=>rfl) _;have hno:∀ b,w.heap.size+2≤b→¬ b=w.heap.size+1:=fun b hb=>by omega
  have HEND:=Hi (show ChkP w (.ok c) (.returned (.tuple #[.agg #[.slice As c.se.length cs,.slice Ap c.pu.length cp,.slice Ao c.ou.length co],.int .i64 0,.int .i64 0])) (((w7.setCell ⟨w.heap.size+1,0,none⟩ (.slice As c.se.length cs)).setCell ⟨w.heap.size+1,1,none⟩ (.slice Ap c.pu.length cp)).setCell ⟨w.heap.size+1,2,none⟩ (.slice Ao c.ou.length co)) from
   ⟨_,_,_,rfl,⟨own_lo (own_updV hv.os hun fun b hb=>hno b (own_atV hv.os b hb).1) (by omega),own_lo (own_updV hv.op hun fun b hb=>hno b (own_atV hv.op b hb).1) (by omega),own_lo (own_updV hv.oo hun fun b hb=>hno b (own_atV hv.oo b hb).1) (by omega),HBD.out⟩,HB7.out.trans (hun.below HB7.out.size fun b hb=>by omega)⟩)
  clear hu7 hR7 hRR hv hun hno;go_wp2_with fail
  exact bodyPost_ret (v:=.tuple #[.agg #[.slice As c.se.length cs,.slice Ap c.pu.length cp,.slice Ao c.ou.length co],.int .i64 0,.int .i64 0]) (resNm HRR.out rfl _ rfl) rfl HEND.out
end Go.Proofs.YtcgibpdjfgjldaaGreatDoor.Nm
namespace Go.Proofs.YtcgibpdjfgjldaaGreatDoor.Fl
open Go Lx Pa Sh Go.Proofs.YtcgibpdjfgjldaaGreatDoor.Nm
def lbC(o:Bs×Bool×Bool):List Value:=[.string ⟨o.1.toArray⟩,.bool o.2.1,.bool o.2.2]
end Go.Proofs.YtcgibpdjfgjldaaGreatDoor.Fl
namespace Go.Proofs.YtcgibpdjfgjldaaGreatDoor.Fl
open Go Go.ChangeShapes Go.WideShapes Go.ChangeAt Go.RowKit Lx Args Pa Sh Go.Proofs.YtcgibpdjfgjldaaGreatDoor.Nm
def fkB(num:Num)(M:Int)(D R:Nat)(z:Tz):Rf Sf:=match ckB z with | .bad a=>.bad a 120 | .ok _=>flB num M D R z
def FkP(w:World)(r:Rf Sf)(e:Ending)(w':World):Prop:=
 match r with
 | .bad a er=>er≠0∧(∃ A c,e = .returned (.tuple #[.slice A 0 c,.int .i64 a,.int .i64 (er:Int)]))∧Below w.heap.size w w'
 | .ok c=>c.ou.length≤maxLen∧(∃ A k,e = .returned (.tuple #[.slice A c.ou.length k,.int .i64 0,.int .i64 0])∧Lies w' A (c.ou.flatMap lbC))∧Below w.heap.size w w'
theorem lb_at:∀ {l:List (Bs×Bool×Bool)} {i:Nat} {x:Bs×Bool×Bool},l[i]?=some x→∀ j,j < 3→(l.flatMap lbC)[i * 3+j]?=(lbC x)[j]?
 | [],i,x,h,j,hj=>by simp at h
 | y :: l,0,x,h,j,hj=>by
  have:y=x:=by simpa using h
  subst this;rw [List.flatMap_cons,List.getElem?_append_left (by show 0 * 3+j < 3;omega)]
  congr 1;omega
 | y :: l,i+1,x,h,j,hj=>by
  rw [List.flatMap_cons,List.getElem?_append_right (by show 3≤_;omega),←lb_at (l:=l) (i:=i) (x:=x) (by simpa using h) j hj]
  congr 1
  show (i+1) * 3+j - 3=i * 3+j;omega
theorem lb_cells{w:World}{A:Option Addr}{l:List (Bs×Bool×Bool)}(hL:Lies w A (l.flatMap lbC)){i:Nat}{x:Bs×Bool×Bool}(h:l[i]?=some x) :
  ∃ b o,A=some ⟨b,o,none⟩∧b < w.heap.size∧w.cell? ⟨b,o+i * 3,none⟩=some (.string ⟨x.1.toArray⟩)∧w.cell? ⟨b,o+i * 3+1,none⟩=some (.bool x.2.1)∧w.cell? ⟨b,o+i * 3+2,none⟩=some (.bool x.2.2):=by
 have g0:=lb_at h 0 (by omega);have g1:=lb_at h 1 (by omega);have g2:=lb_at h 2 (by omega);obtain ⟨b,o,rfl,hb,hc⟩:=hL.at_ (j:=i * 3+0) (g0.trans rfl);refine ⟨b,o,rfl,hb,hc _ _ (g0.trans rfl),?_,?_⟩
 ·rw [Nat.add_assoc];exact hc _ _ (g1.trans rfl)
 ·rw [Nat.add_assoc];exact hc _ _ (g2.trans rfl)
theorem fk_open{num:Num}{M:Int}{D R:Nat}{z:Tz}(hz:noSs (lz z)):NoR NoF (fkB num M D R z):=by
 unfold fkB;cases ckB z with
 | bad a=>show (120:Nat)≠130;decide
 | ok c=>exact fl_open hz
theorem nbz_op(z:Tz):nbz (opz z)≤nbz z:=by
 obtain ⟨k,a,s,n,ps,l⟩:=z;have h:∀ l:List Tz,nbzs (l.map opT)=nbzs l:=fun l=>by
  induction l with
  | nil=>rfl
  | cons x l ih=>
   obtain ⟨k,a,s,n,ps,l'⟩:=x;rw [List.map_cons];show nbz (opT (.mk k a s n ps l'))+nbzs (l.map opT)=nbz (.mk k a s n ps l')+nbzs l;rw [ih];rfl
 show 0+1+nbzs (l.map opT)≤ps.length+1+nbzs l;rw [h];omega
theorem prog_noS{s:Bs}{x:Tr}{t:Tk}{r:List Tk}(he:(wordsL s).er = 0)(h:ProgR (wordsL s).l (.ok [x] (t :: r))):noSs (lz (opz (embz x))):=by
 obtain ⟨zs,e1,h1,_⟩:=h;simp only [List.cons.injEq,and_true] at e1;subst e1;obtain ⟨f,hf⟩:=h1.at_;have hg:=pF_made (num:=numV) (Q:=fun _=>True) numV_lt f (.stmts []) 0 (wordsL s).l trivial (fun _ _ _=>trivial);rw [hf] at hg;obtain ⟨ys,e,hy⟩:=hg.1;have:zs=ys:=by simpa using e
 subst this;show noSs ((embs zs).map opT);exact noSs_op hy
section
variable {num : Num} {M : Int} {D R : Nat} {G : Tz → Prop}
theorem walkOpen(HF:Hid (∀ (z:Tz),G z→nbz z≤1099511627776→∀ (w:World) (k a:Int) (s:Bs) (n:Nat) (A:Option Addr) (la cA:Nat) (B:Option Addr) (lb cB:Nat),TIc True w z (nzC k a s n A la cA B lb cB)→Calls Tryz.prog 11 #[nzA k a s n A la cA B lb cB] w (FkP w (fkB num M D R z))))
  (HLI:Hid (∀ w:World,Calls Tryz.prog 10 #[] w fun e w'=>e = .returned (.bool true)∧Below w.heap.size w w'))
  (HG:Hid (∀ (s:Bs) (x:Tr) (t:Tk) (r:List Tk),(wordsL s).er = 0→ProgR (wordsL s).l (.ok [x] (t :: r))→G (embz x)∧G (opz (embz x))))
  (W:World) (s:ByteArray):Calls Tryz.prog 3 #[.string s] W fun e W'=>e = .returned (.bool true)∧Below W.heap.size W W':=by
 have HP:=Hi (Pq.r_program s W);go_enter Tryz.func3,Tryz.ntmps3;go_wp2_with fail
 refine HP.out.mono ?_;rintro e w1 (⟨k,a,sx,n,A,la,cA,B,lb,cB,x,t,r,rfl,h1,h2,h3,hT,hb⟩ | ⟨a,er,rfl,hbad,hb⟩)
 ·obtain ⟨w2,hw2,hb2,hX2,hs2⟩:=a_box w1 (nB (k:Int) (a:Int) sx n A la cA B lb cB);obtain ⟨hz1,hz2,hz3⟩:=prog_z h1 h2;have hT2:=TIz.below hb2 (tIz_of hT);have HO:=Hi (open_ (embz x) hz2 w2 (k:Int) (a:Int) sx n A la cA B lb cB hT2);have HNS:=Hi (prog_noS h1 h2);have HGG:=Hi (HG.out _ x t r h1 h2).2;have HNB:=Hi (Nat.le_trans (nbz_op (embz x)) hz2);have HB2:=Hi (hb.trans (hb2.mono hb.size));have HW2:=Hi hw2;obtain ⟨⟨e0,e1,e2,e3,e4,e5⟩,z0,z1,z2,z3,z4,z5⟩:=Blk.c6 hX2;have hl2:=hX2.lt;clear h1 h2 h3 hT hb hw2 hb2 hX2 hs2 hz1 hz2 hz3 hT2;go_upto_region 4 with fail
  rw [HW2.out];go_wp2_with fail
  refine (show Calls Tryz.prog 12 #[nzA (k:Int) (a:Int) sx n A la cA B lb cB] w2 _ from HO.out).mono ?_;rintro e w3 ⟨A',c',rfl,hT3,hb3⟩;have HC:=Hi (HF.out _ HGG.out HNB.out w3 _ _ _ _ _ _ _ _ _ _ hT3);have HB3:=Hi (HB2.out.trans (hb3.mono HB2.out.size));have HNR:=Hi (fk_open (num:=num) (M:=M) (D:=D) (R:=R) HNS.out);obtain ⟨res,hres⟩:∃ res,fkB num M D R (opz (embz x))=res:=⟨_,rfl⟩;rw [hres] at HC HNR;clear hT3 hb3 hres e0 e1 e2 e3 e4 e5 z0 z1 z2 z3 z4 z5;go_wp2_with fail
  refine (show Calls Tryz.prog 11 #[nzA (k:Int) 0 [] 0 A' la c' none 0 0] w3 _ from HC.out).mono ?_;intro e w4 h4;cases res with
  | bad a4 er4=>
   obtain ⟨h0,⟨A4,c4,rfl⟩,hb4⟩:=h4;have hne:((er4:Int) != 130)=true:=by have:=HNR.out;simp;intro h;exact this (by omega)
   have HB4:=Hi (HB3.out.trans (hb4.mono HB3.out.size));have HL4:=Hi (HLI.out w4);clear hb4 HC;go_wp2_with fail
   go_loop [9] (fun vi=>vi = .int .i64 0) (fun _=>0)
   case atStart=>rfl
   case round=>
    subst hrel;go_wp2_with fail
    refine HL4.out.mono ?_;rintro e w5 ⟨rfl,hb5⟩;have HB5:=Hi (HB4.out.trans (hb5.mono HB4.out.size));clear hb5;go_wp2_with fail
    go_ret;exact ⟨rfl,HB5.out⟩
  | ok c=>
   obtain ⟨hlen,⟨A4,c4,rfl,hL4⟩,hb4⟩:=h4;have hlm:c.ou.length≤9223372036854775807:=hlen;have HNO:=Hi (show ∀ o∈c.ou,o.2.1=false from HNR.out.2);have HB4:=Hi (HB3.out.trans (hb4.mono HB3.out.size));have HLL:=Hi (HLI.out w4);have HLa:=Hi hL4;clear hb4 HC hL4 hlen;go_wp2_with fail
   go_loop [9] (fun vi=>∃ i:Nat,i≤c.ou.length∧vi = .int .i64 (i:Int)) (fun vi=>c.ou.length - (intOf vi).toNat)
   case atStart=>exact ⟨0,by omega,rfl⟩
   case round=>
    obtain ⟨i,hi,rfl⟩:=hrel;by_cases hlt:i < c.ou.length
    ·obtain ⟨o4,ho4⟩:∃ x,c.ou[i]?=some x:=⟨_,List.getElem?_eq_getElem hlt⟩;obtain ⟨b,o,rfl,hbl,g0,g1,g2⟩:=lb_cells HLa.out ho4;have hf:o4.2.1=false:=HNO.out o4 (List.mem_of_getElem? ho4);rw [hf] at g1;clear ho4;go_wp2_with fail
     go_round
     case rel=>exact ⟨i+1,by omega,by go_num⟩
     case measure=>simp [intOf];omega
    ·go_wp2_with fail
     refine HLL.out.mono ?_;rintro e w5 ⟨rfl,hb5⟩;have HB5:=Hi (HB4.out.trans (hb5.mono HB4.out.size));clear hb5;go_wp2_with fail
     go_ret;exact ⟨rfl,HB5.out⟩
 ·have her:er≠0:=prog_er hbad;have hz:((er:Int) != 0)=true:=by simp;omega
  have HB1:=Hi hb;obtain ⟨w2,hw2,hb2,hX2,hs2⟩:=a_box w1 #[.int .i64 0,.string ⟨#[]⟩,.int .u32 0,.int .i64 0,.slice none 0 0,.slice none 0 0];have HW2:=Hi hw2;have HB2:=Hi (HB1.out.trans (hb2.mono HB1.out.size));have HL4:=Hi (HLI.out w2);clear hb hbad hw2 hb2 hX2 hs2;go_upto_region 3 with fail
  rw [HW2.out];go_wp2_with fail
  refine HL4.out.mono ?_;rintro e w5 ⟨rfl,hb5⟩;have HB5:=Hi (HB2.out.trans (hb5.mono HB2.out.size));clear hb5;go_wp2_with fail
  go_ret;exact ⟨rfl,HB5.out⟩
end
theorem fk_more(num:Num)(M:Int)(D R:Nat)(z:Tz):LeR LeF (fkB num M D R (opz z)) (fkB num M D R z):=by
 have h:=ck_op z;unfold fkB;cases h1:ckB z with
 | bad a=>exact LeR.bad
 | ok c=>
  rw [h1] at h;cases h2:ckB (opz z) with
  | bad a=>rw [h2] at h;exact h.elim
  | ok d=>exact fl_more (op_z z)
theorem LeO.len:∀ {l l':List (Bs×Bool×Bool)},LeO l l'→l.length=l'.length
 | [],[],_=>rfl
 | _ :: l,_ :: l',h=>by rw [List.length_cons,List.length_cons,LeO.len h.2]
 | [],_ :: _,h=>h.elim
 | _ :: _,[],h=>h.elim
theorem LeO.at_:∀ {l l':List (Bs×Bool×Bool)},LeO l l'→∀ {i:Nat} {o o':Bs×Bool×Bool},l[i]?=some o→l'[i]?=some o'→o.1=o'.1∧(o.2.1=true→o'.2.1=true)
 | [],[],_,i,o,o',h,_=>by simp at h
 | x :: l,y :: l',h,0,o,o',h1,h2=>by
  have e1:x=o:=by simpa using h1
  have e2:y=o':=by simpa using h2
  subst e1;subst e2;exact h.1
 | x :: l,y :: l',h,i+1,o,o',h1,h2=>LeO.at_ h.2 (by simpa using h1) (by simpa using h2)
 | [],_ :: _,h,_,_,_,_,_=>h.elim
 | _ :: _,[],h,_,_,_,_,_=>h.elim
section
variable {num : Num} {M : Int} {D R : Nat} {G : Tz → Prop}
theorem walkMore(HF:Hid (∀ (z:Tz),G z→nbz z≤1099511627776→∀ (w:World) (k a:Int) (s:Bs) (n:Nat) (A:Option Addr) (la cA:Nat) (B:Option Addr) (lb cB:Nat),TIc True w z (nzC k a s n A la cA B lb cB)→Calls Tryz.prog 11 #[nzA k a s n A la cA B lb cB] w (FkP w (fkB num M D R z))))
  (HLI:Hid (∀ w:World,Calls Tryz.prog 10 #[] w fun e w'=>e = .returned (.bool true)∧Below w.heap.size w w'))
  (HG:Hid (∀ (s:Bs) (x:Tr) (t:Tk) (r:List Tk),(wordsL s).er = 0→ProgR (wordsL s).l (.ok [x] (t :: r))→G (embz x)∧G (opz (embz x))))
  (W:World) (s:ByteArray):Calls Tryz.prog 5 #[.string s] W fun e W'=>e = .returned (.bool true)∧Below W.heap.size W W':=by
 have HP:=Hi (Pq.r_program s W);go_enter Tryz.func5,Tryz.ntmps5;go_wp2_with fail
 refine HP.out.mono ?_;rintro e w1 (⟨k,a,sx,n,A,la,cA,B,lb,cB,x,t,r,rfl,h1,h2,h3,hT,hb⟩ | ⟨a,er,rfl,hbad,hb⟩)
 ·obtain ⟨w2,hw2,hb2,hX2,hs2⟩:=a_box w1 (nB (k:Int) (a:Int) sx n A la cA B lb cB);obtain ⟨hz1,hz2,hz3⟩:=prog_z h1 h2;have hT2:=TIz.below hb2 (tIz_of hT);have HO:=Hi (open_ (embz x) hz2 w2 (k:Int) (a:Int) sx n A la cA B lb cB hT2);have HGG:=Hi (HG.out _ x t r h1 h2);have HNB:=Hi hz2;have HB2:=Hi (hb.trans (hb2.mono hb.size));have HW2:=Hi hw2;have HT2:=Hi hT2;have HX2:=Hi hX2;obtain ⟨⟨e0,e1,e2,e3,e4,e5⟩,z0,z1,z2,z3,z4,z5⟩:=Blk.c6 hX2;have hl2:=hX2.lt;clear h1 h2 h3 hT hb hw2 hb2 hX2 hs2 hz1 hz2 hz3 hT2;go_upto_region 4 with fail
  rw [HW2.out];go_wp2_with fail
  refine (show Calls Tryz.prog 12 #[nzA (k:Int) (a:Int) sx n A la cA B lb cB] w2 _ from HO.out).mono ?_;rintro e w3 ⟨A',c',rfl,hT3,hb3⟩;have HC:=Hi (HF.out _ HGG.out.2 (Nat.le_trans (nbz_op (embz x)) HNB.out) w3 _ _ _ _ _ _ _ _ _ _ hT3);have HB3:=Hi (HB2.out.trans (hb3.mono HB2.out.size));have HB23:=Hi hb3;have HMO:=Hi (fk_more num M D R (embz x));obtain ⟨r1,hr1⟩:∃ res,fkB num M D R (opz (embz x))=res:=⟨_,rfl⟩;obtain ⟨r2,hr2⟩:∃ res,fkB num M D R (embz x)=res:=⟨_,rfl⟩;rw [hr1] at HC HMO;rw [hr2] at HMO;have HR2:=Hi hr2;clear hT3 hb3 hr1 hr2 e0 e1 e2 e3 e4 e5 z0 z1 z2 z3 z4 z5;go_wp2_with fail
  refine (show Calls Tryz.prog 11 #[nzA (k:Int) 0 [] 0 A' la c' none 0 0] w3 _ from HC.out).mono ?_;intro e w4 h4;have hb34:Below w3.heap.size w3 w4:=by
   cases r1 with
   | bad a4 er4=>exact h4.2.2
   | ok c=>exact h4.2.2
  have hb24:=HB23.out.trans (hb34.mono HB23.out.size);obtain ⟨⟨e0,e1,e2,e3,e4,e5⟩,z0,z1,z2,z3,z4,z5⟩:=Blk.c6 (HX2.out.below hb24 HX2.out.lt);have hC2:=HF.out _ HGG.out.1 HNB.out w4 (k:Int) (a:Int) sx n A la cA B lb cB (TIz.below hb24 HT2.out);rw [HR2.out] at hC2;have HC2:=Hi hC2;have HB4:=Hi (HB3.out.trans (hb34.mono HB3.out.size));have hl4:w1.heap.size < w4.heap.size:=by have:=hb24.size;omega
  clear hC2 hb34 hb24 HC;cases r1 with
  | bad a4 er4=>
   obtain ⟨h0,⟨A4,c4,rfl⟩,_⟩:=h4;have hf0:((er4:Int) != 0)=true:=by simp;omega
   have hf1:((er4:Int)==0)=false:=by simp;omega
   go_wp2_with fail
   refine (show Calls Tryz.prog 11 #[nzA (k:Int) (a:Int) sx n A la cA B lb cB] w4 _ from HC2.out).mono ?_;intro e w5 h5;cases r2 with
   | ok d=>
    obtain ⟨c,hc,_⟩:=HMO.out d rfl;cases hc
   | bad a5 er5=>
    obtain ⟨h0',⟨A5,c5,rfl⟩,hb5⟩:=h5;have hg0:((er5:Int) != 0)=true:=by simp;omega
    have HB5:=Hi (HB4.out.trans (hb5.mono HB4.out.size));have HL5:=Hi (HLI.out w5);clear hb5 HC2;go_wp2_with fail
    refine HL5.out.mono ?_;rintro e w6 ⟨rfl,hb6⟩;have HB6:=Hi (HB5.out.trans (hb6.mono HB5.out.size));clear hb6;go_wp2_with fail
    go_ret;exact ⟨rfl,HB6.out⟩
  | ok c=>
   obtain ⟨hlen,⟨A4,c4,rfl,hL4⟩,_⟩:=h4;have HLA:=Hi hL4;have hlm:c.ou.length≤9223372036854775807:=hlen;clear hL4 hlen;go_wp2_with fail
   refine (show Calls Tryz.prog 11 #[nzA (k:Int) (a:Int) sx n A la cA B lb cB] w4 _ from HC2.out).mono ?_;intro e w5 h5;clear e0 e1 e2 e3 e4 e5 z0 z1 z2 z3 z4 z5;cases r2 with
   | bad a5 er5=>
    obtain ⟨h0',⟨A5,c5,rfl⟩,hb5⟩:=h5;have hg0:((er5:Int) != 0)=true:=by simp;omega
    have HB5:=Hi (HB4.out.trans (hb5.mono HB4.out.size));have HL5:=Hi (HLI.out w5);clear hb5 HC2;go_wp2_with fail
    refine HL5.out.mono ?_;rintro e w6 ⟨rfl,hb6⟩;have HB6:=Hi (HB5.out.trans (hb6.mono HB5.out.size));clear hb6;go_wp2_with fail
    go_ret;exact ⟨rfl,HB6.out⟩
   | ok d=>
    obtain ⟨hlen',⟨A5,c5,rfl,hL5⟩,hb5⟩:=h5;obtain ⟨c0,hc0,hle⟩:=HMO.out d rfl;have hcc:c=c0:=by cases hc0;rfl
    subst hcc;have hll:=hle.ou.len;have hlm':d.ou.length≤9223372036854775807:=hlen';have hnn:((c.ou.length:Int) != (d.ou.length:Int))=false:=by rw [hll];simp
    have HOU:=Hi hle.ou;have HLL:=Hi hll;have HB5:=Hi (HB4.out.trans (hb5.mono HB4.out.size));have HLA5:=Hi (HLA.out.below hb5);have HLB5:=Hi hL5;have H0:=Hi (Below.refl w5.heap.size w5);clear hb5 HC2 hL5 hlen' hle hc0 hll;go_wp2_with fail
    go_loopw [12] (fun vi wr=>∃ i:Nat,i≤c.ou.length∧vi = .int .i64 (i:Int)∧Hid (Below w5.heap.size w5 wr)) (fun vi _=>c.ou.length - (intOf vi).toNat)
    case atStart=>exact ⟨0,by omega,rfl,H0⟩
    case round=>
     clear H0;obtain ⟨i,hi,rfl,HBr⟩:=hrel;by_cases hlt:i < c.ou.length
     ·have hlt':i < d.ou.length:=by have:=HLL.out;omega
      have hil:(i:Int) < (c.ou.length:Int):=by omega
      have hil':(i:Int) < (d.ou.length:Int):=by omega
      obtain ⟨⟨s1,p,q1⟩,ho1⟩:∃ x,c.ou[i]?=some x:=⟨_,List.getElem?_eq_getElem hlt⟩;obtain ⟨⟨s2,q,q2⟩,ho2⟩:∃ x,d.ou[i]?=some x:=⟨_,List.getElem?_eq_getElem hlt'⟩;obtain ⟨hs12,hpq⟩:=HOU.out.at_ ho1 ho2;have hs12':s1=s2:=hs12;subst hs12';have hpq':p=true→q=true:=hpq;obtain ⟨b,o,rfl,hbl,g0,g1,g2⟩:=lb_cells (HLA5.out.below HBr.out) ho1;obtain ⟨b',o',rfl,hbl',f0,f1,f2⟩:=lb_cells (HLB5.out.below HBr.out) ho2;clear hs12 hpq ho1 ho2;cases p with
      | true=>
       obtain rfl:q=true:=hpq' rfl;clear hpq';go_wp2_with fail
       go_quiet (fail)
       go_wp2_with fail
       go_roundw
       case rel=>exact ⟨i+1,by omega,by go_num,Hi (below_drewN HBr.out nq)⟩
       case measure=>simp [intOf];omega
      | false=>
       clear hpq';go_wp2_with fail
       go_quiet (fail)
       go_wp2_with fail
       go_roundw
       case rel=>exact ⟨i+1,by omega,by go_num,Hi (below_drewN HBr.out nq)⟩
       case measure=>simp [intOf];omega
     ·have HL6:=Hi (HLI.out wr);have HB6':=Hi (HB5.out.trans (HBr.out.mono HB5.out.size));go_wp2_with fail
      refine HL6.out.mono ?_;rintro e w6 ⟨rfl,hb6⟩;have HB6:=Hi (HB6'.out.trans (hb6.mono HB6'.out.size));clear hb6;go_wp2_with fail
      go_ret;exact ⟨rfl,HB6.out⟩
 ·have her:er≠0:=prog_er hbad;have hz:((er:Int) != 0)=true:=by simp;omega
  have HB1:=Hi hb;obtain ⟨w2,hw2,hb2,hX2,hs2⟩:=a_box w1 #[.int .i64 0,.string ⟨#[]⟩,.int .u32 0,.int .i64 0,.slice none 0 0,.slice none 0 0];have HW2:=Hi hw2;have HB2:=Hi (HB1.out.trans (hb2.mono HB1.out.size));have HL4:=Hi (HLI.out w2);clear hb hbad hw2 hb2 hX2 hs2;go_upto_region 3 with fail
  rw [HW2.out];go_wp2_with fail
  refine HL4.out.mono ?_;rintro e w5 ⟨rfl,hb5⟩;have HB5:=Hi (HB2.out.trans (hb5.mono HB2.out.size));clear hb5;go_wp2_with fail
  go_ret;exact ⟨rfl,HB5.out⟩
end
end Go.Proofs.YtcgibpdjfgjldaaGreatDoor.Fl
namespace Go.Proofs.YtcgibpdjfgjldaaGreatDoor.Fl
open Lx Pa Sh Go.Proofs.YtcgibpdjfgjldaaGreatDoor.Nm
def arB(fu:Fu)(s:Bs)(m:Nat):Bool:=match fu s with | some f=>decide (m≤f.1.length) | none=>false
mutual
def okC(fu:Fu):Tz→Prop
 | .mk k _ s _ _ l=>(k = 5→s≠sel→arB fu s l.length=true)∧okCs fu l
def okCs(fu:Fu):List Tz→Prop
 | []=>True
 | x :: l=>okC fu x∧okCs fu l
end
theorem okCs_take{fu:Fu}:∀ (i:Nat) {l:List Tz},okCs fu l→okCs fu (l.take i)
 | 0,l,h=>by simp [okCs]
 | i+1,[],h=>by simp [okCs]
 | i+1,x :: l,h=>by
  unfold okCs at h;rw [List.take_succ_cons];unfold okCs;exact ⟨h.1,okCs_take i h.2⟩
theorem okCs_at{fu:Fu}:∀ {l:List Tz},okCs fu l→∀ {i:Nat} {x:Tz},l[i]?=some x→okC fu x
 | [],_,i,x,h=>by simp at h
 | y :: l,h,0,x,hx=>by
  have:y=x:=by simpa using hx
  subst this;unfold okCs at h;exact h.1
 | y :: l,h,i+1,x,hx=>by
  unfold okCs at h;exact okCs_at h.2 (by simpa using hx)
theorem okC_parts{fu:Fu}{k a:Int}{s:Bs}{n:Nat}{ps:List Bs}{l:List Tz}(h:okC fu (.mk k a s n ps l)):(k = 5→s≠sel→arB fu s l.length=true)∧okCs fu l:=by unfold okC at h;exact h
mutual
def okS(fu:Fu):Tz→Prop
 | .mk k _ _ _ _ l=>(k = 12∨k = 10∨k = 8∨k = 9→okCs fu (l.take 1))∧(k = 11→okSs fu 2 l)
def okSs(fu:Fu):Nat→List Tz→Prop
 | _,[]=>True
 | 0,x :: l=>okS fu x∧okSs fu 0 l
 | i+1,_ :: l=>okSs fu i l
end
theorem okSs_drop{fu:Fu}:∀ (i:Nat) {l:List Tz},okSs fu i l→okSs fu 0 (l.drop i)
 | 0,l,h=>h
 | i+1,[],h=>by simp [okSs]
 | i+1,x :: l,h=>by unfold okSs at h;rw [List.drop_succ_cons];exact okSs_drop i h
theorem okSs_at{fu:Fu}:∀ {l:List Tz},okSs fu 0 l→∀ {i:Nat} {x:Tz},l[i]?=some x→okS fu x
 | [],_,i,x,h=>by simp at h
 | y :: l,h,0,x,hx=>by
  have:y=x:=by simpa using hx
  subst this;unfold okSs at h;exact h.1
 | y :: l,h,i+1,x,hx=>by
  unfold okSs at h;exact okSs_at h.2 (by simpa using hx)
theorem okS_parts{fu:Fu}{k a:Int}{s:Bs}{n:Nat}{ps:List Bs}{l:List Tz}(h:okS fu (.mk k a s n ps l)):(k = 12∨k = 10∨k = 8∨k = 9→okCs fu (l.take 1))∧(k = 11→okSs fu 2 l):=by unfold okS at h;exact h
def Jf(kn:Kn)(fu:Fu):Prop:=∀ s p,s≠sel→kn s=some (1,p)→∃ f,fu s=some f∧f.1.length=p
def Kf(kn:Kn)(fu fu':Fu):Prop:=∀ s p,kn s=some (1,p)→fu' s=fu s
theorem Jf.put{kn:Kn}{fu:Fu}(h:Jf kn fu){s:Bs}{m:Nat×Nat}(hm:m.1≠1):Jf (kn.put s m) fu:=fun t p ht hk=>by
 unfold Kn.put at hk;by_cases e:t=s
 ·rw [if_pos e] at hk;cases hk;exact absurd rfl hm
 ·rw [if_neg e] at hk;exact h t p ht hk
theorem Jf.in_{a:Int}{fu:Fu}:∀ {ps:List Bs} {c d:St},inB a ps c = .ok d→Jf c.kn fu→Jf d.kn fu
 | [],c,d,h,hj=>by unfold inB at h;cases h;exact hj
 | s :: l,c,d,h,hj=>by
  unfold inB at h;by_cases hb:namedB c.kn s=true
  ·rw [if_pos hb] at h;cases h
  ·rw [if_neg hb] at h;exact Jf.in_ h (show Jf (c.kn.put s (0,0)) fu from hj.put (by decide))
theorem Jf.dels{kn:Kn}{fu:Fu}(h:Jf kn fu)(l:List Bs):Jf (kn.dels l) fu:=fun t p ht hk=>by
 unfold Kn.dels at hk;by_cases e:t∈l
 ·rw [if_pos e] at hk;cases hk
 ·rw [if_neg e] at hk;exact h t p ht hk
theorem Kf.refl(kn:Kn)(fu:Fu):Kf kn fu fu:=fun _ _ _=>rfl
theorem Kf.trans{c d:St}{f1 f2 f3:Fu}(h:Kf c.kn f1 f2)(he:Ext c d)(h':Kf d.kn f2 f3):Kf c.kn f1 f3:=fun s p hs=>(h' s p (he.kn s _ hs)).trans (h s p hs)
mutual
theorem ln_ok:∀ {z:Tz} {c d:St} {fu:Fu},stB z c = .ok d→Sorts c.kn→Jf c.kn fu→Jf d.kn (lnT z fu)∧Kf c.kn fu (lnT z fu)
 | .mk k a s n ps l,c,d,fu,h,hs,hj=>by
  unfold stB at h;unfold lnT;by_cases h6:k = 6
  ·rw [if_pos h6] at h;rw [if_neg (by omega),if_neg (by omega)];obtain ⟨c1,h1,h2⟩:=bnd_ok h;cases h2;exact ⟨show Jf c1.kn fu from Jf.in_ h1 hj,Kf.refl _ _⟩
  rw [if_neg h6] at h;by_cases h7:k = 7
  ·rw [if_pos h7] at h;rw [if_neg (by omega),if_neg (by omega)];obtain ⟨c1,h1,h2⟩:=bnd_ok h;cases h2;exact ⟨show Jf c1.kn fu from Jf.in_ h1 hj,Kf.refl _ _⟩
  rw [if_neg h7] at h;by_cases h12:k = 12
  ·rw [if_pos h12] at h;rw [if_pos h12];by_cases hb:namedB c.kn s=true
   ·rw [if_pos hb] at h;cases h
   rw [if_neg hb] at h;by_cases hp:paB c.kn s [] ps=false
   ·rw [if_pos hp] at h;cases h
   rw [if_neg hp] at h;obtain ⟨_,h2⟩:=exR_ok h;cases h2;have hn:=namedB_no hb;refine ⟨fun t p ht hk=>?_,fun t p hk=>?_⟩
   ·have hk':(if t=s then some (1,ps.length) else c.kn t)=some (1,p):=hk;dsimp only;by_cases e:t=s
    ·rw [if_pos e] at hk' ⊢;cases hk';exact ⟨_,rfl,rfl⟩
    ·rw [if_neg e] at hk' ⊢;exact hj t p ht hk'
   ·dsimp only;rw [if_neg (fun e=>by subst e;rw [hn] at hk;cases hk)]
  rw [if_neg h12] at h;rw [if_neg h12];by_cases h10:k = 10
  ·rw [if_pos h10] at h;rw [if_neg (by omega)];obtain ⟨_,h2⟩:=exR_ok h;by_cases hb:isB c.kn s [0,1,3]=true
   ·rw [if_pos hb] at h2;cases h2
   rw [if_neg hb] at h2;by_cases hv:isB c.kn s [2]=true
   ·rw [if_pos hv] at h2;cases h2;exact ⟨hj,Kf.refl _ _⟩
   rw [if_neg hv] at h2;cases h2;exact ⟨show Jf (c.kn.put s (2,0)) fu from hj.put (by decide),Kf.refl _ _⟩
  rw [if_neg h10] at h;by_cases h8:k = 8∨k = 9
  ·rw [if_pos h8] at h;rw [if_neg (by omega)];obtain ⟨_,h2⟩:=exR_ok h;by_cases hb:(c.ou.map (·.1)).contains s=true
   ·rw [if_pos hb] at h2;cases h2
   rw [if_neg hb] at h2;cases h2;exact ⟨hj,Kf.refl _ _⟩
  rw [if_neg h8] at h;by_cases h11:k = 11
  ·rw [if_pos h11] at h;rw [if_pos h11];obtain ⟨_,h2⟩:=exR_ok h;by_cases hb:namedB c.kn s=true
   ·rw [if_pos hb] at h2;cases h2
   rw [if_neg hb] at h2;obtain ⟨c1,h3,h4⟩:=bnd_ok h2;cases h4;obtain ⟨g1,g2⟩:=lns_ok h3 (show Sorts (c.kn.put s (3,0)) from hs.put (by decide)) (show Jf (c.kn.put s (3,0)) fu from hj.put (by decide));refine ⟨show Jf (c1.kn.dels _) _ from g1.dels _,fun t p hk=>g2 t p ?_⟩;show (if t=s then some (3,0) else c.kn t)=_;rw [if_neg (fun e=>by subst e;rw [namedB_no hb] at hk;cases hk)];exact hk
  rw [if_neg h11] at h;rw [if_neg h11];cases h;exact ⟨hj,Kf.refl _ _⟩
theorem lns_ok:∀ {i:Nat} {l:List Tz} {c d:St} {fu:Fu},stBs i l c = .ok d→Sorts c.kn→Jf c.kn fu→Jf d.kn (lnTs i l fu)∧Kf c.kn fu (lnTs i l fu)
 | i,[],c,d,fu,h,hs,hj=>by
  rw [stBs_nil] at h;cases h;cases i <;> (unfold lnTs;exact ⟨hj,Kf.refl _ _⟩)
 | 0,x :: l,c,d,fu,h,hs,hj=>by
  rw [stBs_cons] at h;obtain ⟨c1,h1,h2⟩:=bnd_ok h;obtain ⟨g1,g2⟩:=ln_ok h1 hs hj;obtain ⟨x1,x2⟩:=stB_ext h1 hs;obtain ⟨g3,g4⟩:=lns_ok h2 x2 g1;unfold lnTs;exact ⟨g3,g2.trans x1 g4⟩
 | i+1,x :: l,c,d,fu,h,hs,hj=>by
  unfold stBs at h;unfold lnTs;exact lns_ok h hs hj
end
def Arf(kn:Kn)(fu:Fu):Prop:=∀ s p,s≠sel→kn s=some (1,p)→arB fu s p=true
theorem call_ar{kn:Kn}{fu:Fu}(h:Arf kn fu){s:Bs}{p:Nat}(hs:s≠sel)(hc:¬ callB kn s p=false):arB fu s p=true:=by
 unfold callB at hc;cases hk:kn s with
 | none=>rw [hk] at hc;exact absurd rfl hc
 | some m=>
  rw [hk] at hc;obtain ⟨m1,m2⟩:=m;simp at hc;obtain ⟨rfl,rfl⟩:=hc;exact h s _ hs hk
mutual
theorem ex_ok{isN:Bs→Bool}{kn:Kn}{fu:Fu}(h:Arf kn fu):∀ (z:Tz),exB isN (callB kn) z=none→okC fu z
 | .mk k a s n ps l,he=>by
  unfold exB at he;unfold okC;by_cases hc:(k = 1∧isN s=false)∨(k = 5∧callB kn s l.length=false)
  ·rw [if_pos hc] at he;cases he
  ·rw [if_neg hc] at he;exact ⟨fun hk hs=>call_ar h hs fun hh=>hc (.inr ⟨hk,hh⟩),exs_ok h l he⟩
theorem exs_ok{isN:Bs→Bool}{kn:Kn}{fu:Fu}(h:Arf kn fu):∀ (l:List Tz),exBs isN (callB kn) l=none→okCs fu l
 | [],he=>by unfold okCs;trivial
 | x :: l,he=>by
  unfold exBs at he;unfold okCs;cases hx:exB isN (callB kn) x with
  | some a=>rw [hx] at he;cases he
  | none=>rw [hx] at he;exact ⟨ex_ok h x hx,exs_ok h l he⟩
end
theorem Arf.ext{c d:St}{fu:Fu}(h:Arf d.kn fu)(he:Ext c d):Arf c.kn fu:=fun s p hs hk=>h s p hs (he.kn s _ hk)
theorem dels_fn{c d:St}(h:Ext c d){n:Nat}(hn:n=c.en.length){s:Bs}{p:Nat}(hk:d.kn s=some (1,p)):d.kn.dels (d.en.drop n) s=some (1,p):=by
 subst hn;obtain ⟨e,h1,h2,_⟩:=h.en;have hd:d.en.drop c.en.length=e:=by rw [h1];simp
 rw [hd];unfold Kn.dels;rw [if_neg (fun hm=>by
  obtain ⟨_,m,h3,h4⟩:=h2 s hm;rw [hk] at h3;cases h3;exact h4 rfl)]
 exact hk
mutual
theorem st_ok{fu:Fu}:∀ {z:Tz} {c d:St},stB z c = .ok d→Sorts c.kn→Arf d.kn fu→okS fu z
 | .mk k a s n ps l,c,d,h,hs,hj=>by
  have hx:=(stB_ext h hs).1;unfold stB at h;unfold okS;by_cases h6:k = 6
  ·exact ⟨fun h=>by omega,fun h=>by omega⟩
  rw [if_neg h6] at h;by_cases h7:k = 7
  ·exact ⟨fun h=>by omega,fun h=>by omega⟩
  rw [if_neg h7] at h;by_cases h12:k = 12
  ·rw [if_pos h12] at h;by_cases hb:namedB c.kn s=true
   ·rw [if_pos hb] at h;cases h
   rw [if_neg hb] at h;by_cases hp:paB c.kn s [] ps=false
   ·rw [if_pos hp] at h;cases h
   rw [if_neg hp] at h;exact ⟨fun _=>exs_ok (hj.ext hx) _ (exR_ok h).1,fun h=>by omega⟩
  rw [if_neg h12] at h;by_cases h10:k = 10
  ·rw [if_pos h10] at h;exact ⟨fun _=>exs_ok (hj.ext hx) _ (exR_ok h).1,fun h=>by omega⟩
  rw [if_neg h10] at h;by_cases h8:k = 8∨k = 9
  ·rw [if_pos h8] at h;exact ⟨fun _=>exs_ok (hj.ext hx) _ (exR_ok h).1,fun h=>by omega⟩
  rw [if_neg h8] at h;by_cases h11:k = 11
  ·rw [if_pos h11] at h;obtain ⟨_,h2⟩:=exR_ok h;by_cases hb:namedB c.kn s=true
   ·rw [if_pos hb] at h2;cases h2
   rw [if_neg hb] at h2;obtain ⟨c1,h3,h4⟩:=bnd_ok h2;have h5:=(stBs_ext h3 (show Sorts (c.kn.put s (3,0)) from hs.put (by decide))).1;have h0:=(Ext.new (d:={ c with kn:=c.kn.put s (3,0),en:=c.en ++ [s] }) (namedB_no hb) (by decide) rfl rfl).trans h5;refine ⟨fun h=>by omega,fun _=>sts_ok h3 (show Sorts (c.kn.put s (3,0)) from hs.put (by decide)) fun t p ht hk=>?_⟩;cases h4;exact hj t p ht (dels_fn h0 rfl hk)
  exact ⟨fun h=>by omega,fun h=>by omega⟩
theorem sts_ok{fu:Fu}:∀ {i:Nat} {l:List Tz} {c d:St},stBs i l c = .ok d→Sorts c.kn→Arf d.kn fu→okSs fu i l
 | i,[],c,d,h,hs,hj=>by cases i <;> (unfold okSs;trivial)
 | 0,x :: l,c,d,h,hs,hj=>by
  rw [stBs_cons] at h;obtain ⟨c1,h1,h2⟩:=bnd_ok h;obtain ⟨x1,x2⟩:=stB_ext h1 hs;have x3:=(stBs_ext h2 x2).1;unfold okSs;exact ⟨st_ok h1 hs (hj.ext x3),sts_ok h2 x2 hj⟩
 | i+1,x :: l,c,d,h,hs,hj=>by
  unfold stBs at h;unfold okSs;exact sts_ok h hs hj
end
def okF(fu ff:Fu):Prop:=∀ s f,ff s=some f→okCs fu (f.2.take 1)
mutual
theorem lnF{fu:Fu}:∀ (z:Tz) {ff:Fu},okS fu z→okF fu ff→okF fu (lnT z ff)
 | .mk k a s n ps l,ff,h,hf=>by
  obtain ⟨h1,h2⟩:=okS_parts h;unfold lnT;by_cases h12:k = 12
  ·rw [if_pos h12];intro t f ht;dsimp only at ht;by_cases e:t=s
   ·rw [if_pos e] at ht;cases ht;exact h1 (.inl h12)
   ·rw [if_neg e] at ht;exact hf t f ht
  rw [if_neg h12];by_cases h11:k = 11
  ·rw [if_pos h11];exact lnFs 2 l (h2 h11) hf
  ·rw [if_neg h11];exact hf
theorem lnFs{fu:Fu}:∀ (i:Nat) (l:List Tz) {ff:Fu},okSs fu i l→okF fu ff→okF fu (lnTs i l ff)
 | i,[],ff,h,hf=>by cases i <;> (unfold lnTs;exact hf)
 | 0,x :: l,ff,h,hf=>by
  unfold okSs at h;unfold lnTs;exact lnFs 0 l h.2 (lnF x h.1 hf)
 | i+1,x :: l,ff,h,hf=>by
  unfold okSs at h;unfold lnTs;exact lnFs i l h hf
end
theorem ck_ar{z:Tz}{d:St}(h:ckB z = .ok d):okSs (fuz z) 0 (lz z)∧okF (fuz z) (fuz z):=by
 have hs:Sorts Nm.init.kn:=fun s m hm=>by
  have hm':(if s=sel then some (1,3) else none)=some m:=hm;by_cases e:s=sel
  ·rw [if_pos e] at hm';cases hm';decide
  ·rw [if_neg e] at hm';cases hm'
 have hj:Jf Nm.init.kn (fun _=>none):=fun s p ht hk=>by
  have hm':(if s=sel then some (1,3) else none)=some (1,p):=hk;rw [if_neg ht] at hm';cases hm'
 obtain ⟨g1,_⟩:=lns_ok (i:=0) (l:=lz z) (fu:=fun _=>none) h hs hj;have ha:Arf d.kn (fuz z):=fun s p ht hk=>by
  obtain ⟨f,h1,h2⟩:=g1 s p ht hk;unfold arB fuz;rw [h1];simp [h2]
 have h1:=sts_ok (i:=0) (l:=lz z) h hs ha;exact ⟨h1,lnFs 0 (lz z) h1 fun s f hf=>by cases hf⟩
def Dm(k1 k2:Kw):Prop:=∀ s,(k1 s).isSome=true→(k2 s).isSome=true
end Go.Proofs.YtcgibpdjfgjldaaGreatDoor.Fl
