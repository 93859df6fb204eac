/- DERIVED. NmChk. By an AI agent. -/
import Derived.Test.YtpoepignpdfleaaGreatDoorY01
import Derived.Test.YtpoepignpdfleaaGreatDoorY14
import Derived.Carry
import Derived.Deep.Cut
set_option maxRecDepth 100000
set_option maxHeartbeats 4000000
namespace Go.Proofs.YtpoepignpdfleaaGreatDoor.Nm
open Go Go.ChangeShapes Go.WideShapes Go.ChangeAt Go.RowKit Lx Args Pa Sh
set_option linter.unusedVariables false
set_option linter.unusedSimpArgs false
theorem turned_size{w w':World}{b:Nat}(h:w.mapTurned w' b):w'.heap.size=w.heap.size:=by
 obtain ⟨es,clock,es',clock',_,rfl⟩:=h
 simp [ChangeMaps.setBlock]
def nil3:Array Value:=#[.slice none 0 0,.slice none 0 0,.slice none 0 0]
def NaP(lo:Nat)(w:World)(vs vp vo:Value)(c:St):Prop:=
 w.ownsRow lo 9 1 vs c.se.length (c.se.map strV)∧w.ownsRow lo 9 1 vp c.pu.length (c.pu.map strV)∧w.ownsRow lo 44 3 vo c.ou.length (c.ou.flatMap laC)∧c.se.length≤1099511627776∧c.pu.length≤1099511627776∧c.ou.length≤1099511627776
def ChkP(w:World)(r:Rs)(e:Ending)(w':World):Prop:=
 match r with
 | .ok c=>∃ vs vp vo,e = .returned (.tuple #[.agg #[vs,vp,vo],.int .i64 0,.int .i64 0])∧NaP w.heap.size w' vs vp vo c∧Below w.heap.size w w'
 | .bad a=>e = .returned (.tuple #[.agg nil3,.int .i64 a,.int .i64 120])∧Below w.heap.size w w'
theorem szNm:(Tryz.prog.info? 29).map (·.size)=some 3:=by kernel_rfl
theorem results_ctt{fn:Func}{p q r:Tmp}{tx:TypeId}(h:fn.results = #[.cell p tx,.tmp q,.tmp r]){P:Program}(tmps:Array Value)(w:World)(g1:Nat)(v1:Value)
  (hp:tmps.getD p undef = .pointer (some ⟨g1,0,none⟩)) (h1:(loadVar tx ⟨g1,0,none⟩).run P w = .ok v1 w) :
  (results fn tmps).run P w = .ok (.tuple #[v1,tmps.getD q undef,tmps.getD r undef]) w:=by
 have hp':tmps[p]?.getD undef = .pointer (some ⟨g1,0,none⟩):=by simpa using hp
 simp [results,h,hp',asAddr,h1]
theorem resNm{g:Nat}{n:Array Value}{W:World}(hN:Blk W g 29 n)(hs:some 3=some n.size)(tmps:Array Value)(h2:tmps.getD 2 undef = .pointer (some ⟨g,0,none⟩)) :
  (results Tryz.f15 tmps).run Tryz.prog W = .ok (.tuple #[.agg n,tmps.getD 3 undef,tmps.getD 4 undef]) W:=
 results_ctt rfl tmps W g (.agg n) h2 (run_loadVar_row W g 29 29 n (0,0) _ hN Tryz.underlying29 rfl (szNm.trans hs))
theorem own_lo{w:World}{lo lo':Nat}{e:TypeId}{size n:Nat}{v:Value}{xs:List Value}(h:w.ownsRow lo e size v n xs)(hl:lo'≤lo):w.ownsRow lo' e size v n xs:=⟨h.1,h.2.imp id fun ⟨g,cap,cur,a,b,r⟩=>⟨g,cap,cur,a,Nat.le_trans hl b,r⟩⟩
theorem first_ck{w:World}{lo kb ob g:Nat}(hg:Blk w g 61 #[.slice none 0 0,.slice none 0 0,.slice none 0 0,.map (some kb),.map (some ob),.slice none 0 0])(hk:MpK w kb 1 init.kn)(ho:MpS w ob 0 (fun _=>false))(hlo:lo≤kb∧kb < ob∧ob < g):CK (fun b=>lo≤b) lo w g init 1:=by
 refine ⟨⟨_,_,_,_,kb,ob,hg,World.ownsRow_nil _ _ _ _,World.ownsRow_nil _ _ _ _,World.ownsRow_nil _ _ _ _,World.ownsRow_nil _ _ _ _,hk,ho.mono (by decide),?_,?_,by omega,by omega,by omega,by have:=hg.lt;omega⟩,⟨Nat.zero_le _,Nat.zero_le _,Nat.zero_le _,Nat.zero_le _⟩,fun s hs=>by cases hs⟩
 ·have h1:g≠kb:=by omega
  have h2:g≠ob:=by omega
  have h3:kb≠ob:=by omega
  unfold Dis
  simp [Value.ownBlock,h1,h2,h3,Ne.symm h1,Ne.symm h2,Ne.symm h3]
 ·intro x hx b hb
  simp only [List.mem_cons,List.not_mem_nil,or_false] at hx
  rcases hx with rfl | rfl | rfl | rfl | rfl | rfl | rfl
  ·cases hb;omega
  ·cases hb;omega
  ·cases hb;omega
  ·cases hb
  ·cases hb
  ·cases hb
  ·cases hb
theorem check(z:Tz)(hlz:lenz z)(hm:nbz z≤1099511627776)(w:World)(k a:Int)(s:Bs)(n:Nat)(A:Option Addr)(la cA:Nat)(B:Option Addr)(lb cB:Nat)(hT:TIc True w z (nzC k a s n A la cA B lb cB)) :
  Calls Tryz.prog 15 #[nzA k a s n A la cA B lb cB] w (ChkP w (ckB z)):=by
 obtain ⟨k1,a1,s1,n1,ps,l⟩:=z
 obtain ⟨rfl,rfl,rfl,rfl,rfl,rfl,hl,_,_,css,hL,hS⟩:=tIz_parts hT
 have hck:ckB (.mk k a s n ps l)=stBs 0 l init:=rfl
 rw [hck]
 obtain ⟨w1,hw1,hb1,hX1,hs1⟩:=a_box w (nB k a s n A l.length cA B ps.length cB)
 obtain ⟨w2,hw2⟩:∃ w2,w1.alloc (.cells nil3 29)=w2:=⟨_,rfl⟩
 have hb2:Below w1.heap.size w1 w2:=by rw [←hw2];exact (Below.refl _ _).alloc (Nat.le_refl _) _
 have hR2:Blk w2 w1.heap.size 29 nil3:=by rw [←hw2];exact Blk.new _ _ _
 have hs2:w2.heap.size=w1.heap.size+1:=by rw [←hw2];simp
 rw [hs1] at hR2
 obtain ⟨w3,hw3⟩:∃ w3,w2.alloc (.map #[] 0)=w3:=⟨_,rfl⟩
 have hb3:Below w2.heap.size w2 w3:=by rw [←hw3];exact (Below.refl _ _).alloc (Nat.le_refl _) _
 have hs3:w3.heap.size=w2.heap.size+1:=by rw [←hw3];simp
 have hm3:MpK w3 w2.heap.size 0 (fun _=>none):=by rw [←hw3];exact MpK.made w2
 obtain ⟨kb,hkb⟩:∃ kb,w2.heap.size=kb:=⟨_,rfl⟩
 have hmk1:(Instr.makeMap 59 none).run Tryz.prog w2 = .ok (.map (some kb)) w3:=by rw [←hw3,←hkb];exact run_makeMap _ _
 rw [hkb] at hm3
 obtain ⟨w4,hrun,hm4,ht4⟩:=hm3.put (s:=sel) (by decide) (by decide) (1,3) (by decide) (by decide)
 have hrun':(Instr.mapUpdate 59 (.map (some kb)) (.string ⟨#[115,101,108]⟩) (.agg #[.int .i64 1,.int .i64 3])).run Tryz.prog w3 = .ok () w4:=hrun
 have hs4:=turned_size ht4
 have hu4:Upd (fun b=>b=kb) w3 w4:=turned_upd ht4 rfl
 obtain ⟨w5,hw5⟩:∃ w5,w4.alloc (.map #[] 0)=w5:=⟨_,rfl⟩
 have hb5:Below w4.heap.size w4 w5:=by rw [←hw5];exact (Below.refl _ _).alloc (Nat.le_refl _) _
 have hs5:w5.heap.size=w4.heap.size+1:=by rw [←hw5];simp
 have ho5:MpS w5 w4.heap.size 0 (fun _=>false):=by rw [←hw5];exact MpS.made w4
 obtain ⟨ob,hob⟩:∃ ob,w4.heap.size=ob:=⟨_,rfl⟩
 have hmk2:(Instr.makeMap 51 none).run Tryz.prog w4 = .ok (.map (some ob)) w5:=by rw [←hw5,←hob];exact run_makeMap _ _
 rw [hob] at ho5
 obtain ⟨w6,hw6⟩:∃ w6,w5.alloc (.cells #[.slice none 0 0,.slice none 0 0,.slice none 0 0,.map (some kb),.map (some ob),.slice none 0 0] 61)=w6:=⟨_,rfl⟩
 have hb6:Below w5.heap.size w5 w6:=by rw [←hw6];exact (Below.refl _ _).alloc (Nat.le_refl _) _
 have hX6:Blk w6 w5.heap.size 61 #[.slice none 0 0,.slice none 0 0,.slice none 0 0,.map (some kb),.map (some ob),.slice none 0 0]:=by rw [←hw6];exact Blk.new _ _ _
 obtain ⟨g,hg⟩:∃ g,w5.heap.size=g:=⟨_,rfl⟩
 rw [hg] at hX6
 have hb26:Upd (fun b=>b=kb) w2 w6:=(((Upd.of_below hb3 _).trans hu4).trans (Upd.of_below hb5 _)).trans (Upd.of_below hb6 _)
 have hb06:Below w.heap.size w w6:=(hb1.trans (hb2.mono hb1.size)).trans (hb26.below (by omega) fun b hb=>by omega)
 have hR6:Blk w6 (w.heap.size+1) 29 nil3:=hR2.upd hb26 (by omega)
 have hN6:Blk w6 w.heap.size 26 (nB k a s n A l.length cA B ps.length cB):=(hX1.below hb2 hX1.lt).upd hb26 (by omega)
 have hK6:MpK w6 kb 1 init.kn:=(hm4.upd (Upd.of_below hb5 fun _=>False) id).upd (Upd.of_below hb6 fun _=>False) id
 have hO6:MpS w6 ob 0 (fun _=>false):=ho5.upd (Upd.of_below hb6 fun _=>False) id
 have hCK:CK (fun b=>w.heap.size+2≤b) (w.heap.size+2) w6 g init 1:=first_ck hX6 hK6 hO6 (by omega)
 have hnb:nbz (.mk k a s n ps l)=ps.length+1+nbzs l:=rfl
 have HPR:=Hi (program w w6 (fun b=>w.heap.size+2≤b) (w.heap.size+2) g init 1 k a s n A cA B ps.length cB l css hb06 hL hS hl (lenz_parts hlz).2.2 (fun b hb=>by omega) hCK (by omega))
 have HW1:=Hi hw1;have HW2:=Hi hw2;have HW6:=Hi hw6;have HB6:=Hi hb06;have HR6:=Hi hR6;have HG:=Hi hg
 obtain ⟨⟨e0,e1,e2,e3,e4,e5⟩,z0,z1,z2,z3,z4,z5⟩:=Blk.c6 hN6
 obtain ⟨res,hres⟩:∃ res,stBs 0 l init=res:=⟨_,rfl⟩
 rw [hres] at HPR ⊢
 have hmm:1+nbzs l≤1099511627776:=by omega
 clear hT hL hS hl hlz hm hw1 hb1 hX1 hs1 hw2 hb2 hR2 hs2 hw3 hb3 hs3 hm3 hkb hm4 ht4 hs4 hu4 hw5 hb5 hs5 ho5 hob hw6 hb6 hX6 hg hb26 hb06 hR6 hN6 hK6 hO6 hCK hck hnb hrun hres
 go_enter Tryz.func15,Tryz.ntmps15
 go_upto_region 1 with fail
 rw [HW1.out]
 rw [show w1.alloc (.cells #[.slice none 0 0,.slice none 0 0,.slice none 0 0] 29)=w2 from HW2.out]
 go_upto_region 2 with fail
 rw [HW6.out,HG.out]
 go_wp2_with fail
 refine (show Calls Tryz.prog 25 #[.pointer (some ⟨g,0,none⟩),nzA k a s n A l.length cA B ps.length cB] w6 _ from HPR.out).mono ?_
 intro e w7 h7
 clear e0 e1 e2 e3 e4 e5 z0 z1 z2 z3 z4 z5 hmk1 hmk2 hrun'
 cases res with
 | bad a1=>
  obtain ⟨rfl,hu7⟩:=h7
  have hR7:=HR6.out.upd hu7 (by omega)
  obtain ⟨q0,q1,q2,y0,y1,y2⟩:=Blk.c3 (show Blk w7 (w.heap.size+1) 29 #[.slice none 0 0,.slice none 0 0,.slice none 0 0] from hR7)
  have HB7:=Hi (HB6.out.trans (hu7.below HB6.out.size fun b hb=>by omega))
  have hRR:=Blk.put3 (show Blk w7 (w.heap.size+1) 29 #[.slice none 0 0,.slice none 0 0,.slice none 0 0] from hR7) (.slice none 0 0) (.slice none 0 0) (.slice none 0 0)
  have HRR:=Hi hRR
  have HEND:=Hi (show ChkP w (.bad a1) (.returned (.tuple #[.agg nil3,.int .i64 a1,.int .i64 120])) (((w7.setCell ⟨w.heap.size+1,0,none⟩ (.slice none 0 0)).setCell ⟨w.heap.size+1,1,none⟩ (.slice none 0 0)).setCell ⟨w.heap.size+1,2,none⟩ (.slice none 0 0)) from
   ⟨rfl,((HB7.out.setCell (p:=⟨w.heap.size+1,0,none⟩) (Nat.le_succ _) _).setCell (p:=⟨w.heap.size+1,1,none⟩) (Nat.le_succ _) _).setCell (p:=⟨w.heap.size+1,2,none⟩) (Nat.le_succ _) _⟩)
  clear hu7 hR7 hRR
  go_wp2_with fail
  exact bodyPost_ret (v:=.tuple #[.agg nil3,.int .i64 a1,.int .i64 120]) (resNm HRR.out rfl _ rfl) rfl HEND.out
 | ok c=>
  obtain ⟨rfl,hc7,hu7⟩:=h7
  have hR7:=HR6.out.upd hu7 (by omega)
  obtain ⟨q0,q1,q2,y0,y1,y2⟩:=Blk.c3 (show Blk w7 (w.heap.size+1) 29 #[.slice none 0 0,.slice none 0 0,.slice none 0 0] from hR7)
  have HB7:=Hi (HB6.out.trans (hu7.below HB6.out.size fun b hb=>by omega))
  obtain ⟨⟨vs,vp,vo,ve,kb2,ob2,hv⟩,hbd7,_⟩:=hc7
  have HBD:=Hi (show c.se.length≤1099511627776∧c.pu.length≤1099511627776∧c.ou.length≤1099511627776 from ⟨by have:=hbd7.1;omega,by have:=hbd7.2.1;omega,by have:=hbd7.2.2.1;omega⟩)
  clear hbd7
  have c0:w7.cell? ⟨g,0,none⟩=some vs:=hv.blk.cell 0
  have c1:w7.cell? ⟨g,1,none⟩=some vp:=hv.blk.cell 1
  have c2:w7.cell? ⟨g,2,none⟩=some vo:=hv.blk.cell 2
  obtain ⟨As,cs,rfl⟩:=own_sl hv.os
  obtain ⟨Ap,cp,rfl⟩:=own_sl hv.op
  obtain ⟨Ao,co,rfl⟩:=own_sl hv.oo
  have hlt:=hv.blk.lt
  have hRR:=Blk.put3 (show Blk w7 (w.heap.size+1) 29 #[.slice none 0 0,.slice none 0 0,.slice none 0 0] from hR7) (.slice As c.se.length cs) (.slice Ap c.pu.length cp) (.slice Ao c.ou.length co)
  have HRR:=Hi hRR
  have hun:Upd (fun b=>b=w.heap.size+1) w7 (((w7.setCell ⟨w.heap.size+1,0,none⟩ (.slice As c.se.length cs)).setCell ⟨w.heap.size+1,1,none⟩ (.slice Ap c.pu.length cp)).setCell ⟨w.heap.size+1,2,none⟩ (.slice Ao c.ou.length co)):=(((Upd.refl (fun b=>b=w.heap.size+1) w7).setCell (p:=⟨w.heap.size+1,0,none⟩) (fun _=>rfl) _).setCell (p:=⟨w.heap.size+1,1,none⟩) (fun _=>rfl) _).setCell (p:=⟨w.heap.size+1,2,none⟩) (fun _=>rfl) _
  have hno:∀ b,w.heap.size+2≤b→¬ b=w.heap.size+1:=fun b hb=>by omega
  have HEND:=Hi (show ChkP w (.ok c) (.returned (.tuple #[.agg #[.slice As c.se.length cs,.slice Ap c.pu.length cp,.slice Ao c.ou.length co],.int .i64 0,.int .i64 0])) (((w7.setCell ⟨w.heap.size+1,0,none⟩ (.slice As c.se.length cs)).setCell ⟨w.heap.size+1,1,none⟩ (.slice Ap c.pu.length cp)).setCell ⟨w.heap.size+1,2,none⟩ (.slice Ao c.ou.length co)) from
   ⟨_,_,_,rfl,⟨own_lo (own_updV hv.os hun fun b hb=>hno b (own_atV hv.os b hb).1) (by omega),own_lo (own_updV hv.op hun fun b hb=>hno b (own_atV hv.op b hb).1) (by omega),own_lo (own_updV hv.oo hun fun b hb=>hno b (own_atV hv.oo b hb).1) (by omega),HBD.out⟩,HB7.out.trans (hun.below HB7.out.size fun b hb=>by omega)⟩)
  clear hu7 hR7 hRR hv hun hno
  go_wp2_with fail
  exact bodyPost_ret (v:=.tuple #[.agg #[.slice As c.se.length cs,.slice Ap c.pu.length cp,.slice Ao c.ou.length co],.int .i64 0,.int .i64 0]) (resNm HRR.out rfl _ rfl) rfl HEND.out
end Go.Proofs.YtpoepignpdfleaaGreatDoor.Nm
