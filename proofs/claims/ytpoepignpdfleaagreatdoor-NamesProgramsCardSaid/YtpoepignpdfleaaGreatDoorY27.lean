/- DERIVED. NmPr, NmLv, ShNm, NmWu, NmLa, NmWl, NmRv, NmRz. By an AI agent. -/
import Derived.Test.YtpoepignpdfleaaGreatDoorY01
import Derived.Test.YtpoepignpdfleaaGreatDoorY15
import Derived.Test.YtpoepignpdfleaaGreatDoorY26
import Derived.Test.YtpoepignpdfleaaGreatDoorY04
import Derived.StillTailTactics
import Derived.Test.YtpoepignpdfleaaGreatDoorY09
import Derived.Test.YtpoepignpdfleaaGreatDoorY06
import Derived.Test.YtpoepignpdfleaaGreatDoorY10
import Derived.Test.YtpoepignpdfleaaGreatDoorY11
import Derived.Deep.CutBlock
set_option maxRecDepth 100000
set_option maxHeartbeats 4000000
namespace Go.Proofs.YtpoepignpdfleaaGreatDoor.Nm
open Go Go.ChangeShapes Go.WideShapes Go.ChangeAt Go.RowKit Lx Args Pa Sh
set_option linter.unusedVariables false
set_option linter.unusedSimpArgs false
abbrev zA:Value:=.agg #[.int .i64 0,.string ⟨#[]⟩,.int .u32 0,.int .i64 0,.slice none 0 0,.slice none 0 0]
abbrev nA3:Value:=.agg #[.slice none 0 0,.slice none 0 0,.slice none 0 0]
def BadN(s:Bs)(a:Int)(er:Nat):Prop:=(∃ a':Nat,a=(a':Int)∧BadR ProgR (wordsL s) a' er)∨((wordsL s).er = 0∧er = 120∧∃ x t r,ProgR (wordsL s).l (.ok [x] (t :: r))∧ckB (embz x) = .bad a)
def PgmP(s:ByteArray)(w:World)(e:Ending)(w':World):Prop:=
 (∃ (k a:Nat) (sx:Bs) (n:Nat) (A:Option Addr) (la cA:Nat) (B:Option Addr) (lb cB:Nat) (x:Tr) (t:Tk) (r:List Tk) (vs vp vo:Value) (c:St),e = .returned (.tuple #[nzA (k:Int) (a:Int) sx n A la cA B lb cB,.agg #[vs,vp,vo],.int .i64 0,.int .i64 0])∧(wordsL s.data.toList).er = 0∧ProgR (wordsL s.data.toList).l (.ok [x] (t :: r))∧ckB (embz x) = .ok c ∧
  TIn (fun b=>w.heap.size≤b) w' x (ndC k a sx n A la cA B lb cB)∧NaP w.heap.size w' vs vp vo c∧Below w.heap.size w w') ∨
 (∃ (a:Int) (er:Nat),e = .returned (.tuple #[zA,nA3,.int .i64 a,.int .i64 (er:Int)])∧er≠0∧BadN s.data.toList a er∧Below w.heap.size w w')
theorem res_cctt{fn:Func}{p q u v:Tmp}(h:fn.results = #[.cell p 26,.cell q 29,.tmp u,.tmp v])(tmps:Array Value)(W:World){g g':Nat}{cs ds:Array Value}(hp:tmps.getD p undef = .pointer (some ⟨g,0,none⟩))(hq:tmps.getD q undef = .pointer (some ⟨g',0,none⟩))(hg:Blk W g 26 cs)(hg':Blk W g' 29 ds)(hs:some 6=some cs.size)(hs':some 3=some ds.size){x y:Value}(hx:tmps.getD u undef=x)(hy:tmps.getD v undef=y) :
  (results fn tmps).run Tryz.prog W = .ok (.tuple #[.agg cs,.agg ds,x,y]) W:=by
 subst hx;subst hy
 have hp':tmps[p]?.getD undef = .pointer (some ⟨g,0,none⟩):=by simpa using hp
 have hq':tmps[q]?.getD undef = .pointer (some ⟨g',0,none⟩):=by simpa using hq
 simp [results,h,hp',hq',asAddr,run_loadVar_row W g 26 26 cs (0,0) _ hg Tryz.underlying26 rfl (szNd.trans hs),run_loadVar_row W g' 29 29 ds (0,0) _ hg' Tryz.underlying29 rfl (szNm.trans hs')]
abbrev put3(w:World)(g:Nat)(a b c:Value):World:=((w.setCell ⟨g,0,none⟩ a).setCell ⟨g,1,none⟩ b).setCell ⟨g,2,none⟩ c
theorem put3_upd{X:Nat→Prop}{w0 w:World}{g:Nat}(h:Upd X w0 w)(hg:g < w0.heap.size→X g)(a b c:Value):Upd X w0 (put3 w g a b c):=
 ((h.setCell (p:=⟨g,0,none⟩) hg a).setCell (p:=⟨g,1,none⟩) hg b).setCell (p:=⟨g,2,none⟩) hg c
theorem put9{w:World}{g g':Nat}(hne:g≠g'){a b c d e f a1 b1 c1:Value}(h:Blk w g 26 #[a,b,c,d,e,f])(h':Blk w g' 29 #[a1,b1,c1])(a2 b2 c2 d2 e2 f2 a3 b3 c3:Value) :
  Blk (put3 (put6 w g a2 b2 c2 d2 e2 f2) g' a3 b3 c3) g 26 #[a2,b2,c2,d2,e2,f2]∧Blk (put3 (put6 w g a2 b2 c2 d2 e2 f2) g' a3 b3 c3) g' 29 #[a3,b3,c3]∧Upd (fun b=>b=g∨b=g') w (put3 (put6 w g a2 b2 c2 d2 e2 f2) g' a3 b3 c3):=by
 have h1:=Blk.put6 h a2 b2 c2 d2 e2 f2
 have h2:=put6_far h' hne.symm a2 b2 c2 d2 e2 f2
 refine ⟨h1.upd (X:=fun b=>b=g') (put3_upd (X:=fun b=>b=g') (Upd.refl _ _) (fun _=>rfl) _ _ _) hne,Blk.put3 h2 _ _ _,put3_upd (put6_upd (Upd.refl _ _) (fun _=>.inl rfl) _ _ _ _ _ _) (fun _=>.inr rfl) _ _ _⟩
theorem pgm(s:ByteArray)(w:World):Calls Tryz.prog 6 #[.string s] w (PgmP s w):=by
 obtain ⟨w0,hw0,hb0,hB,hs0⟩:=a_box w #[.int .i64 0,.string ⟨#[]⟩,.int .u32 0,.int .i64 0,.slice none 0 0,.slice none 0 0]
 obtain ⟨w1,hw1⟩:∃ w1,w0.alloc (.cells #[.slice none 0 0,.slice none 0 0,.slice none 0 0] 29)=w1:=⟨_,rfl⟩
 have hb1:Below w0.heap.size w0 w1:=by rw [←hw1];exact (Below.refl _ _).alloc (Nat.le_refl _) _
 have hs1:w1.heap.size=w.heap.size+2:=by rw [←hw1];simp;omega
 have hC:Blk w1 (w.heap.size+1) 29 #[.slice none 0 0,.slice none 0 0,.slice none 0 0]:=by rw [←hw1,←hs0];exact Blk.new _ _ _
 have HB01:=Hi (hb0.trans (hb1.mono hb0.size))
 obtain ⟨g,hg⟩:∃ g,w.heap.size=g:=⟨_,rfl⟩
 obtain ⟨g',hg'⟩:∃ g',g+1=g':=⟨_,rfl⟩
 rw [hg] at hB hC
 rw [hg'] at hC
 have hgg:¬ g=g':=by omega
 have hgg':¬ g'=g:=by omega
 have HG:=Hi hg;have HG':=Hi hg'
 have HB:=Hi (hB.below hb1 hB.lt);have HC:=Hi hC;have HW0:=Hi hw0;have HW1:=Hi hw1;have HP:=Hi (p_program s w1);have HS1:=Hi hs1
 have HS0:=Hi hs0
 clear hw0 hb0 hB hw1 hb1 hC hs1 hs0 hg hg'
 go_enter Tryz.func6,Tryz.ntmps6
 go_upto_region 1 with fail
 rw [HW0.out]
 rw [HW1.out]
 simp only [HG.out,HG'.out]
 go_wp2_with fail
 refine HP.out.mono ?_
 rintro e w2 (⟨k,a,sx,n,A,la,cA,B,lb,cB,x,t,r,rfl,h1,h2,h3,hT,hb⟩ | ⟨a,er,rfl,hbad,hb⟩)
 ·obtain ⟨w3,hw3,hb3,hX3,hs3⟩:=a_box w2 (nB (k:Int) (a:Int) sx n A la cA B lb cB)
  have hb23:=hb.trans (hb3.mono hb.size)
  have hT3:=TIz.below hb3 (tIz_of hT)
  obtain ⟨hz1,hz2,hz3⟩:=prog_z h1 h2
  have HCK:=Hi (check (embz x) hz1 hz2 w3 (k:Int) (a:Int) sx n A la cA B lb cB hT3)
  have HT:=Hi (hT.upd (Upd.of_below hb3 fun _=>False) fun _ _ h=>h)
  have HX3:=Hi hX3;have HW3:=Hi hw3;have HB3:=Hi hb23;have HS3:=Hi hs3
  have HER:=Hi h1;have HRD:=Hi h2
  have hsz:=Hi hb.size
  obtain ⟨⟨e0,e1,e2,e3,e4,e5⟩,z0,z1,z2,z3,z4,z5⟩:=Blk.c6 hX3
  obtain ⟨res,hres⟩:∃ res,ckB (embz x)=res:=⟨_,rfl⟩
  have HRES:=Hi hres
  rw [hres] at HCK
  clear hw3 hb3 hX3 hs3 hb hb23 hT hT3 hz1 hz2 hz3 h1 h2 h3 hres HP
  go_wp2_with fail
  rw [HW3.out]
  refine (show Calls Tryz.prog 15 #[nzA (k:Int) (a:Int) sx n A la cA B lb cB] w3 _ from HCK.out).mono ?_
  intro e w4 h4
  clear e0 e1 e2 e3 e4 e5 z0 z1 z2 z3 z4 z5 HCK
  cases res with
  | bad a1=>
   have h4':e = .returned (.tuple #[nA3,.int .i64 a1,.int .i64 120])∧Below w3.heap.size w3 w4:=h4
   clear h4
   obtain ⟨rfl,hb4⟩:=h4'
   obtain ⟨w5,hw5⟩:∃ w5,w4.alloc (.cells #[.slice none 0 0,.slice none 0 0,.slice none 0 0] 29)=w5:=⟨_,rfl⟩
   have hb5:Below w4.heap.size w4 w5:=by rw [←hw5];exact (Below.refl _ _).alloc (Nat.le_refl _) _
   have HW5:=Hi hw5
   have hb14:=HB3.out.trans ((hb4.trans (hb5.mono hb4.size)).mono HB3.out.size)
   have hX:=HB.out.below hb14 HB.out.lt
   have hY:=HC.out.below hb14 HC.out.lt
   obtain ⟨⟨e0,e1,e2,e3,e4,e5⟩,z0,z1,z2,z3,z4,z5⟩:=Blk.c6 hX
   obtain ⟨c0,c1,c2,f0,f1,f2⟩:=Blk.c3 hY
   have hb14s:=hb14.size
   obtain ⟨p1,p2,p3⟩:=put9 hgg hX hY (.int .i64 0) (.string ⟨#[]⟩) (.int .u32 0) (.int .i64 0) (.slice none 0 0) (.slice none 0 0) (.slice none 0 0) (.slice none 0 0) (.slice none 0 0)
   have HN1:=Hi p1;have HN2:=Hi p2
   have HEND:=Hi (show PgmP s w (.returned (.tuple #[zA,nA3,.int .i64 a1,.int .i64 ((120:Nat):Int)])) _ from .inr ⟨a1,120,rfl,by decide,.inr ⟨HER.out,rfl,x,t,r,HRD.out,HRES.out⟩,(HB01.out.trans (hb14.mono (by have:=HS1.out;omega))).trans (p3.below (by have:=hb14.size;have:=HG.out;have:=HG'.out;have:=HS1.out;omega) fun b hb=>by rcases hb with h | h <;> (have:=HG.out;have:=HG'.out;omega))⟩)
   clear hX hY hb4 hb14 hb14s p1 p2 p3 hw5 hb5
   go_upto_region 5 with fail
   rw [HW5.out]
   go_wp2_with fail
   exact bodyPost_ret (v:=.tuple #[zA,nA3,.int .i64 a1,.int .i64 120]) (res_cctt rfl _ _ rfl rfl HN1.out HN2.out rfl rfl rfl rfl) rfl HEND.out
  | ok c=>
   obtain ⟨vs,vp,vo,rfl,⟨os,op,oo,hbd⟩,hb4⟩:=h4
   obtain ⟨As,cs,rfl⟩:=own_sl os
   obtain ⟨Ap,cp,rfl⟩:=own_sl op
   obtain ⟨Ao,co,rfl⟩:=own_sl oo
   obtain ⟨w5,hw5⟩:∃ w5,w4.alloc (.cells #[.slice As c.se.length cs,.slice Ap c.pu.length cp,.slice Ao c.ou.length co] 29)=w5:=⟨_,rfl⟩
   have hb5:Below w4.heap.size w4 w5:=by rw [←hw5];exact (Below.refl _ _).alloc (Nat.le_refl _) _
   have hY5:Blk w5 w4.heap.size 29 #[.slice As c.se.length cs,.slice Ap c.pu.length cp,.slice Ao c.ou.length co]:=by rw [←hw5];exact Blk.new _ _ _
   have hb46:=hb5
   have hb36:=hb4.trans (hb46.mono hb4.size)
   have hb16:=HB3.out.trans (hb36.mono HB3.out.size)
   have hu46:Upd (fun _=>False) w4 w5:=Upd.of_below hb46 _
   have hX:=HB.out.below hb16 HB.out.lt
   have hY:=HC.out.below hb16 HC.out.lt
   have hN6:=HX3.out.below hb36 HX3.out.lt
   have hT6:=HT.out.upd (Upd.of_below hb36 fun _=>False) fun _ _ h=>h
   have hsz4:=hb4.size
   have hsz3:=HS3.out
   have hs12:=HS1.out;have hgo:=HG.out;have hgo':=HG'.out
   have hs46:=hb46.size
   have hb35:=hb4.trans (hb5.mono hb4.size)
   have hb15:=HB3.out.trans (hb35.mono HB3.out.size)
   obtain ⟨⟨e0,e1,e2,e3,e4,e5⟩,z0,z1,z2,z3,z4,z5⟩:=Blk.c6 (HB.out.below hb15 HB.out.lt)
   obtain ⟨c0,c1,c2,f0,f1,f2⟩:=Blk.c3 (HC.out.below hb15 HC.out.lt)
   obtain ⟨⟨g0,g1,g2,g3,g4,g5⟩,y0,y1,y2,y3,y4,y5⟩:=Blk.c6 (HX3.out.below hb35 HX3.out.lt)
   obtain ⟨d0,d1,d2,i0,i1,i2⟩:=Blk.c3 hY5
   obtain ⟨p1,p2,p3⟩:=put9 hgg hX hY (.int .i64 (k:Int)) (.string ⟨sx.toArray⟩) (.int .u32 (n:Int)) (.int .i64 (a:Int)) (.slice A la cA) (.slice B lb cB) (.slice As c.se.length cs) (.slice Ap c.pu.length cp) (.slice Ao c.ou.length co)
   obtain ⟨wp,hwp⟩:∃ wp,put3 (put6 w5 g (.int .i64 (k:Int)) (.string ⟨sx.toArray⟩) (.int .u32 (n:Int)) (.int .i64 (a:Int)) (.slice A la cA) (.slice B lb cB)) g' (.slice As c.se.length cs) (.slice Ap c.pu.length cp) (.slice Ao c.ou.length co)=wp:=⟨_,rfl⟩
   rw [hwp] at p1 p2 p3
   have hdr:Below wp.heap.size wp wp.drew:=Below.drew (Below.refl _ _)
   have HN1:=Hi (p1.below hdr p1.lt);have HN2:=Hi (p2.below hdr p2.lt)
   replace p3:=p3.trans (Upd.of_below hdr _)
   have hpo:∀ {e:TypeId} {sz m:Nat} {v:Value} {xs:List Value},w4.ownsRow w3.heap.size e sz v m xs→wp.drew.ownsRow w.heap.size e sz v m xs:=fun h=>
    own_lo (own_updV (own_updV h hu46 fun _ _ h=>h) p3 fun b hb hq=>by have:=hsz.out;have:=(own_atV h b hb).1;omega) (by have:=hsz.out;omega)
   have HEND:=Hi (show PgmP s w (.returned (.tuple #[nzA (k:Int) (a:Int) sx n A la cA B lb cB,.agg #[.slice As c.se.length cs,.slice Ap c.pu.length cp,.slice Ao c.ou.length co],.int .i64 0,.int .i64 0])) wp.drew from
    .inl ⟨k,a,sx,n,A,la,cA,B,lb,cB,x,t,r,_,_,_,c,rfl,HER.out,HRD.out,HRES.out,(hT6.upd p3 fun b hb h=>by have:=hsz.out;omega).mono fun b hb _=>by have:=hsz.out;omega,⟨hpo os,hpo op,hpo oo,hbd⟩,(HB01.out.trans (hb16.mono (by have:=HS1.out;omega))).trans (p3.below (by have:=hb16.size;have:=HS1.out;omega) fun b hb=>by rcases hb with h | h <;> (have:=HG.out;have:=HG'.out;omega))⟩)
   have HW5:=Hi hw5;have hwp':=hwp
   unfold put3 put6 at hwp'
   have HWP:=Hi hwp'
   have q1:¬ g=w4.heap.size:=by have:=hsz.out;omega
   have q2:¬ w4.heap.size=g:=by have:=hsz.out;omega
   clear hb35 hb15 hX hY hN6 hT6 hb4 hb5 hb46 hb36 hb16 hu46 hpo hgo hgo' hs12 hsz3 hsz4 hs46 p1 p2 p3 os op oo hbd hw5 hwp hwp' hY5 hdr
   go_upto_region 7 with fail
   rw [HW5.out]
   go_region
   all_goals (
    rw [HWP.out]
    go_wp2_with fail
    exact bodyPost_ret (v:=.tuple #[nzA (k:Int) (a:Int) sx n A la cA B lb cB,.agg #[.slice As c.se.length cs,.slice Ap c.pu.length cp,.slice Ao c.ou.length co],.int .i64 0,.int .i64 0]) (res_cctt rfl _ _ rfl rfl HN1.out HN2.out rfl rfl rfl rfl) rfl HEND.out)
 ·have hX:=HB.out.below hb HB.out.lt
  have hY:=HC.out.below hb HC.out.lt
  have hs12:=HS1.out;have hgo:=HG.out;have hgo':=HG'.out
  have hbs:=hb.size
  have her:=prog_er hbad
  obtain ⟨w3,hw3,hb3,hX3,hs3⟩:=a_box w2 #[.int .i64 0,.string ⟨#[]⟩,.int .u32 0,.int .i64 0,.slice none 0 0,.slice none 0 0]
  have hX':=hX.below hb3 hX.lt
  have hY':=hY.below hb3 hY.lt
  have hb13:=hb.trans (hb3.mono hb.size)
  have hbs3:=hb13.size
  obtain ⟨⟨e0,e1,e2,e3,e4,e5⟩,z0,z1,z2,z3,z4,z5⟩:=Blk.c6 hX'
  obtain ⟨c0,c1,c2,f0,f1,f2⟩:=Blk.c3 hY'
  obtain ⟨p1,p2,p3⟩:=put9 hgg hX' hY' (.int .i64 0) (.string ⟨#[]⟩) (.int .u32 0) (.int .i64 0) (.slice none 0 0) (.slice none 0 0) (.slice none 0 0) (.slice none 0 0) (.slice none 0 0)
  have HN1:=Hi p1;have HN2:=Hi p2
  have hz:((er:Int) != 0)=true:=by simp;omega
  have HEND:=Hi (show PgmP s w (.returned (.tuple #[zA,nA3,.int .i64 (a:Int),.int .i64 (er:Int)])) _ from .inr ⟨(a:Int),er,rfl,her,.inl ⟨a,rfl,hbad⟩,(HB01.out.trans (hb13.mono (by have:=HS1.out;omega))).trans (p3.below (by have:=HS1.out;omega) fun b hb=>by rcases hb with h | h <;> (have:=HG.out;have:=HG'.out;omega))⟩)
  have HW3:=Hi hw3
  clear hX hY hX' hY' hb hb13 hb3 hX3 hw3 p1 p2 p3 hbad hgo hgo' hs12 hbs hbs3
  go_upto_region 2 with fail
  rw [HW3.out]
  go_wp2_with fail
  exact bodyPost_ret (v:=.tuple #[zA,nA3,.int .i64 (a:Int),.int .i64 (er:Int)]) (res_cctt rfl _ _ rfl rfl HN1.out HN2.out rfl rfl rfl rfl) rfl HEND.out
def txA:Bs:=[115,101,99,114,101,116,32,97,59,32,112,117,98,108,105,99,32,112,59,32,111,117,116,32,111,32,61,32,97,32,94,32,112,59]
def txB:Bs:=[120,32,61,32,97,59]
def tkA:List Tk:=[⟨3,[115,101,99,114,101,116],0⟩,⟨1,[97],7⟩,⟨4,[59],8⟩,⟨3,[112,117,98,108,105,99],10⟩,⟨1,[112],17⟩,⟨4,[59],18⟩,⟨3,[111,117,116],20⟩,⟨1,[111],24⟩,⟨4,[61],26⟩,⟨1,[97],28⟩,⟨4,[94],30⟩,⟨1,[112],32⟩,⟨4,[59],33⟩,⟨0,[],34⟩]
def tkB:List Tk:=[⟨1,[120],0⟩,⟨4,[61],2⟩,⟨1,[97],4⟩,⟨4,[59],5⟩,⟨0,[],6⟩]
def zsA:List Tr:=[.mk 6 0 [] 0 [[97]] [],.mk 7 10 [] 0 [[112]] [],.mk 8 20 [111] 0 [] [.mk 3 28 [94] 0 [] [.mk 1 28 [97] 0 [] [],.mk 1 32 [112] 0 [] []]]]
def zsB:List Tr:=[.mk 10 0 [120] 0 [] [.mk 1 4 [97] 0 [] []]]
theorem wordsA:wordsL txA=⟨tkA,0,0⟩:=by rfl
theorem wordsB:wordsL txB=⟨tkB,0,0⟩:=by rfl
theorem treeA:pF numV 60 (.stmts []) 0 tkA=some (.ok zsA [⟨0,[],34⟩]):=by rfl
theorem treeB:pF numV 60 (.stmts []) 0 tkB=some (.ok zsB [⟨0,[],6⟩]):=by rfl
theorem progA:ProgR tkA (.ok [.mk 13 0 [] 0 [] zsA] [⟨0,[],34⟩]):=⟨zsA,rfl,⟨60,fun f hf=>pF_mono numV 60 f hf _ _ _ _ treeA⟩,_,_,rfl,rfl⟩
theorem progB:ProgR tkB (.ok [.mk 13 0 [] 0 [] zsB] [⟨0,[],6⟩]):=⟨zsB,rfl,⟨60,fun f hf=>pF_mono numV 60 f hf _ _ _ _ treeB⟩,_,_,rfl,rfl⟩
theorem ckA:∃ c,ckB (embz (.mk 13 0 [] 0 [] zsA)) = .ok c∧c.se.length = 1∧c.pu.length = 1∧c.ou.length = 1:=⟨_,rfl,rfl,rfl,rfl⟩
theorem ckBd:ckB (embz (.mk 13 0 [] 0 [] zsB)) = .bad 4:=by rfl
theorem hBB{w w1 w2 w3:World}(h1:Below w.heap.size w w1)(h2:Below w1.heap.size w1 w2)(h3:Below w2.heap.size w2 w3):Below w.heap.size w w3:=h1.trans ((h2.trans (h3.mono h2.size)).mono h1.size)
theorem pgA(w:World):Calls Tryz.prog 6 #[.string ⟨txA.toArray⟩] w fun e w'=>∃ (k a:Nat) (sx:Bs) (n:Nat) (A:Option Addr) (la cA:Nat) (B:Option Addr) (lb cB:Nat) (As Ap Ao:Option Addr) (cs cp co:Nat),e = .returned (.tuple #[nzA (k:Int) (a:Int) sx n A la cA B lb cB,.agg #[.slice As 1 cs,.slice Ap 1 cp,.slice Ao 1 co],.int .i64 0,.int .i64 0])∧Below w.heap.size w w':=by
 refine (pgm ⟨txA.toArray⟩ w).mono fun e w' h=>?_
 have hw:wordsL (⟨txA.toArray⟩:ByteArray).data.toList=⟨tkA,0,0⟩:=wordsA
 rcases h with ⟨k,a,sx,n,A,la,cA,B,lb,cB,x,t,r,vs,vp,vo,c,rfl,h1,h2,h3,hT,⟨os,op,oo,_⟩,hb⟩ | ⟨a,er,rfl,hne,hbad,hb⟩
 ·rw [hw] at h2
  obtain rfl:=prog_one h2 progA
  obtain ⟨c',h4,l1,l2,l3⟩:=ckA
  rw [h4] at h3
  cases h3
  obtain ⟨As,cs,rfl⟩:=own_sl os
  obtain ⟨Ap,cp,rfl⟩:=own_sl op
  obtain ⟨Ao,co,rfl⟩:=own_sl oo
  rw [l1,l2,l3]
  exact ⟨k,a,sx,n,A,la,cA,B,lb,cB,As,Ap,Ao,cs,cp,co,rfl,hb⟩
 ·exfalso
  rcases hbad with ⟨a',_,h⟩ | ⟨_,_,x,t,r,h,h'⟩
  ·exact prog_ok_bad (l:=wordsL (⟨txA.toArray⟩:ByteArray).data.toList) (by rw [hw]) (by rw [hw];exact progA) h
  ·rw [hw] at h
   obtain rfl:=prog_one h progA
   obtain ⟨c',h4,_⟩:=ckA
   rw [h4] at h'
   cases h'
theorem pgB(w:World):Calls Tryz.prog 6 #[.string ⟨txB.toArray⟩] w fun e w'=>e = .returned (.tuple #[zA,nA3,.int .i64 4,.int .i64 120])∧Below w.heap.size w w':=by
 refine (pgm ⟨txB.toArray⟩ w).mono fun e w' h=>?_
 have hw:wordsL (⟨txB.toArray⟩:ByteArray).data.toList=⟨tkB,0,0⟩:=wordsB
 rcases h with ⟨k,a,sx,n,A,la,cA,B,lb,cB,x,t,r,vs,vp,vo,c,rfl,h1,h2,h3,hT,_,hb⟩ | ⟨a,er,rfl,hne,hbad,hb⟩
 ·exfalso
  rw [hw] at h2
  obtain rfl:=prog_one h2 progB
  rw [ckBd] at h3
  cases h3
 ·rcases hbad with ⟨a',_,h⟩ | ⟨_,rfl,x,t,r,h,h'⟩
  ·exact (prog_ok_bad (l:=wordsL (⟨txB.toArray⟩:ByteArray).data.toList) (by rw [hw]) (by rw [hw];exact progB) h).elim
  ·rw [hw] at h
   obtain rfl:=prog_one h progB
   rw [ckBd] at h'
   cases h'
   exact ⟨rfl,hb⟩
theorem lives(w:World):Calls Tryz.prog 10 #[] w fun e w'=>e = .returned (.bool true)∧Below w.heap.size w w':=by
 have HA:=Hi (pgA w);have HBB:=Hi pgB
 go_enter Tryz.func10,Tryz.ntmps10
 go_wp2_with fail
 refine (show Calls Tryz.prog 6 #[.string ⟨#[115,101,99,114,101,116,32,97,59,32,112,117,98,108,105,99,32,112,59,32,111,117,116,32,111,32,61,32,97,32,94,32,112,59]⟩] w _ from HA.out).mono ?_
 rintro e w1 ⟨k,a,sx,n,A,la,cA,B,lb,cB,As,Ap,Ao,cs,cp,co,rfl,hb1⟩
 obtain ⟨w2,hw2,hb2,hX2,hs2⟩:=a_box w1 (nB (k:Int) (a:Int) sx n A la cA B lb cB)
 obtain ⟨w3,hw3⟩:∃ w3,w2.alloc (.cells #[.slice As 1 cs,.slice Ap 1 cp,.slice Ao 1 co] 29)=w3:=⟨_,rfl⟩
 have hb3:Below w2.heap.size w2 w3:=by rw [←hw3];exact (Below.refl _ _).alloc (Nat.le_refl _) _
 have hX3:Blk w3 w2.heap.size 29 #[.slice As 1 cs,.slice Ap 1 cp,.slice Ao 1 co]:=by rw [←hw3];exact Blk.new _ _ _
 rw [hs2] at hX3
 have HB:=Hi (hBB hb1 hb2 hb3);have HX3:=Hi hX3;have HW2:=Hi hw2;have HW3:=Hi hw3;have HC:=Hi (HBB.out w3)
 clear hb1 hb2 hb3 hw2 hw3 hX2 hX3 hs2 HA
 go_upto_region 2 with fail
 rw [HW2.out,HW3.out]
 go_wp2_with fail
 refine (show Calls Tryz.prog 6 #[.string ⟨#[120,32,61,32,97,59]⟩] w3 _ from HC.out).mono ?_
 rintro e w4 ⟨rfl,hb4⟩
 obtain ⟨w5,hw5,hb5,hX5,hs5⟩:=a_box w4 #[.int .i64 0,.string ⟨#[]⟩,.int .u32 0,.int .i64 0,.slice none 0 0,.slice none 0 0]
 obtain ⟨w6,hw6⟩:∃ w6,w5.alloc (.cells #[.slice none 0 0,.slice none 0 0,.slice none 0 0] 29)=w6:=⟨_,rfl⟩
 have hb6:Below w5.heap.size w5 w6:=by rw [←hw6];exact (Below.refl _ _).alloc (Nat.le_refl _) _
 have hb36:=hBB hb4 hb5 hb6
 obtain ⟨c0,c1,c2,f0,f1,f2⟩:=Blk.c3 (HX3.out.below hb36 HX3.out.lt)
 have HB6:=Hi (HB.out.trans (hb36.mono HB.out.size));have HW5:=Hi hw5;have HW6:=Hi hw6
 clear hb4 hb5 hb6 hb36 hw5 hw6 hX5 hs5
 go_upto_region 3 with fail
 rw [HW5.out,HW6.out]
 go_wp2_with fail
 go_ret
 exact ⟨rfl,HB6.out⟩
end Go.Proofs.YtpoepignpdfleaaGreatDoor.Nm
namespace Go.Proofs.YtpoepignpdfleaaGreatDoor.Sh
open Go Go.ChangeShapes Go.WideShapes Go.ChangeAt Go.RowKit Lx Args Pa
set_option linter.unusedVariables false
set_option linter.unusedSimpArgs false
theorem rnamesB(A B:Option Addr)(c d:Nat)(ps qs:List Bs)(w:World)(hA:Lies w A (ps.map strV))(hB:Lies w B (qs.map strV))(hl:ps.length≤maxLen)(hl':qs.length≤maxLen) :
  Calls Tryz.prog 12 #[.slice A ps.length c,.slice B qs.length d] w fun e w'=>e = .returned (.bool (ps==qs))∧Below w.heap.size w w':=by
 have hlm:ps.length≤9223372036854775807:=hl
 by_cases hne:ps.length=qs.length
 ·have HA:=Hi hA;have HB:=Hi hB;have HE:=Hi hne
  obtain ⟨res,hres⟩:∃ res:Bool,(ps==qs)=res:=⟨_,rfl⟩
  rw [←hne,hres]
  have HR:=Hi hres
  clear hA hB hne hres hl'
  go_enter Tryz.func12,Tryz.ntmps12
  go_wp2_with fail
  go_loopw [5] (fun vi wr=>∃ i:Nat,i≤ps.length∧vi = .int .i64 (i:Int)∧Hid (Below w.heap.size w wr)∧Hid (∀ j,j < i→ps[j]?=qs[j]?)) (fun vi _=>ps.length - (intOf vi).toNat)
  case atStart=>exact ⟨0,by omega,rfl,Hi (Below.refl _ _),Hi fun j hj=>absurd hj (by omega)⟩
  case round=>
   obtain ⟨i,hi,rfl,HH,HQ⟩:=hrel
   by_cases hlt:i < ps.length
   ·have hlt2:i < qs.length:=by rw [←HE.out];exact hlt
    obtain ⟨p,hp⟩:∃ p,ps[i]?=some p:=⟨_,List.getElem?_eq_getElem hlt⟩
    obtain ⟨q,hq⟩:∃ q,qs[i]?=some q:=⟨_,List.getElem?_eq_getElem hlt2⟩
    have f1:(ps.map strV)[i]?=some (.string ⟨p.toArray⟩):=by rw [List.getElem?_map,hp];rfl
    have f2:(qs.map strV)[i]?=some (.string ⟨q.toArray⟩):=by rw [List.getElem?_map,hq];rfl
    obtain ⟨b,o,rfl,_,hc1⟩:=(HA.out.below HH.out).at_ f1
    obtain ⟨b',o',rfl,_,hc2⟩:=(HB.out.below HH.out).at_ f2
    have e1:=hc1 _ _ f1
    have e2:=hc2 _ _ f2
    by_cases hpq:p=q
    ·subst hpq
     have HN:=Hi (show ∀ j,j < i+1→ps[j]?=qs[j]? from fun j hj=>by
      by_cases h:j < i
      ·exact HQ.out j h
      ·obtain rfl:j=i:=by omega
       rw [hp,hq])
     clear hc1 hc2 f1 f2 hp hq hlt2
     go_wp2_with fail
     go_quiet (fail)
     go_wp2_with fail
     go_roundw
     case rel=>exact ⟨i+1,by omega,by go_num,Hi (below_drewN HH.out nq),HN⟩
     case measure=>simp [intOf];omega
    ·have hb:(p==q)=false:=by simpa using hpq
     have hr:res=false:=by
      rw [←HR.out]
      simp only [beq_eq_false_iff_ne,ne_eq]
      intro h
      subst h
      rw [hp] at hq
      exact hpq (Option.some.inj hq)
     have HRR:=Hi hr
     clear hc1 hc2 f1 f2 hp hq hlt2 hpq hr
     go_wp2_with fail
     go_quiet (fail)
     go_wp2_with fail
     go_ret
     exact ⟨by rw [HRR.out];rfl,below_drewN HH.out nq⟩
   ·have hr:res=true:=by
     rw [←HR.out]
     simp only [beq_iff_eq]
     refine List.ext_getElem? fun j=>?_
     by_cases hj:j < ps.length
     ·exact HQ.out j (by omega)
     ·rw [List.getElem?_eq_none (by omega),List.getElem?_eq_none (by have:=HE.out;omega)]
    have HRR:=Hi hr
    clear hr
    go_wp2_with fail
    go_ret
    exact ⟨by rw [HRR.out];rfl,HH.out⟩
 ·have hr:(ps==qs)=false:=by
   simp only [beq_eq_false_iff_ne,ne_eq]
   intro h
   exact hne (by rw [h])
  have hi:((ps.length:Int) != (qs.length:Int))=true:=by simp;omega
  have hi2:((ps.length:Int)==(qs.length:Int))=false:=by simp;omega
  rw [hr]
  clear hr hA hB
  go_enter Tryz.func12,Tryz.ntmps12
  go_wp2_with fail
  go_ret
  exact ⟨rfl,Below.refl _ _⟩
end Go.Proofs.YtpoepignpdfleaaGreatDoor.Sh
namespace Go.Proofs.YtpoepignpdfleaaGreatDoor.Nm
open Go Go.ChangeShapes Go.WideShapes Go.ChangeAt Go.RowKit Lx Args Pa Sh
set_option linter.unusedVariables false
set_option linter.unusedSimpArgs false
theorem lies_ownV{w:World}{base:Nat}{e:TypeId}{size n:Nat}{v:Value}{xs:List Value}(h:w.ownsRow base e size v n xs):∃ A c,v = .slice A n c∧Lies w A xs:=by
 obtain ⟨A,c,rfl⟩:=own_sl h
 exact ⟨A,c,rfl,lies_own h⟩
theorem names_(ps qs:List Bs)(w:World)(v u:Value)(lo lo':Nat)(hv:w.ownsRow lo 9 1 v ps.length (ps.map strV))(hu:w.ownsRow lo' 9 1 u qs.length (qs.map strV))(hl:ps.length≤maxLen)(hl':qs.length≤maxLen) :
  Calls Tryz.prog 12 #[v,u] w fun e w'=>e = .returned (.bool (ps==qs))∧Below w.heap.size w w':=by
 obtain ⟨A,c,rfl,hA⟩:=lies_ownV hv
 obtain ⟨B,d,rfl,hB⟩:=lies_ownV hu
 exact rnamesB A B c d ps qs w hA hB hl hl'
theorem la_at:∀ {l:List (Bs×Bool)} {i:Nat} {x:Bs×Bool},l[i]?=some x→∀ j,j < 3→(l.flatMap laC)[i * 3+j]?=(laC x)[j]?
 | [],i,x,h,j,hj=>by simp at h
 | y :: l,0,x,h,j,hj=>by
  have:y=x:=by simpa using h
  subst this
  rw [List.flatMap_cons,List.getElem?_append_left (by show 0 * 3+j < 3;omega)]
  congr 1;omega
 | y :: l,i+1,x,h,j,hj=>by
  rw [List.flatMap_cons,List.getElem?_append_right (by show 3≤_;omega),←la_at (l:=l) (i:=i) (x:=x) (by simpa using h) j hj]
  congr 1
  show (i+1) * 3+j - 3=i * 3+j
  omega
theorem la_cells{w:World}{A:Option Addr}{l:List (Bs×Bool)}(hL:Lies w A (l.flatMap laC)){i:Nat}{s:Bs}{q:Bool}(h:l[i]?=some (s,q)) :
  ∃ b o,A=some ⟨b,o,none⟩∧b < w.heap.size∧w.cell? ⟨b,o+i * 3,none⟩=some (.string ⟨s.toArray⟩)∧w.cell? ⟨b,o+i * 3+1,none⟩=some (.bool false)∧w.cell? ⟨b,o+i * 3+2,none⟩=some (.bool q):=by
 have g0:=la_at h 0 (by omega);have g1:=la_at h 1 (by omega);have g2:=la_at h 2 (by omega)
 obtain ⟨b,o,rfl,hb,hc⟩:=hL.at_ (j:=i * 3+0) (g0.trans rfl)
 refine ⟨b,o,rfl,hb,hc _ _ (g0.trans rfl),?_,?_⟩
 ·rw [Nat.add_assoc];exact hc _ _ (g1.trans rfl)
 ·rw [Nat.add_assoc];exact hc _ _ (g2.trans rfl)
theorem labels(l:List (Bs×Bool))(w:World)(v u:Value)(lo lo':Nat)(hv:w.ownsRow lo 44 3 v l.length (l.flatMap laC))(hu:w.ownsRow lo' 44 3 u l.length (l.flatMap laC))(hl:l.length≤maxLen) :
  Calls Tryz.prog 16 #[v,u] w fun e w'=>e = .returned (.bool true)∧Below w.heap.size w w':=by
 have hlm:l.length≤9223372036854775807:=hl
 obtain ⟨A,c,rfl,hA⟩:=lies_ownV hv
 obtain ⟨B,d,rfl,hB⟩:=lies_ownV hu
 have HA:=Hi hA;have HB:=Hi hB
 clear hA hB hv hu hl
 go_enter Tryz.func16,Tryz.ntmps16
 go_wp2_with fail
 go_loopw [5] (fun vi wr=>∃ i:Nat,i≤l.length∧vi = .int .i64 (i:Int)∧Hid (Below w.heap.size w wr)) (fun vi _=>l.length - (intOf vi).toNat)
 case atStart=>exact ⟨0,by omega,rfl,Hi (Below.refl _ _)⟩
 case round=>
  obtain ⟨i,hi,rfl,HBr⟩:=hrel
  by_cases hlt:i < l.length
  ·obtain ⟨⟨s,q⟩,hx⟩:∃ x,l[i]?=some x:=⟨_,List.getElem?_eq_getElem hlt⟩
   have hdr:Below wr.heap.size wr wr.drew:=Below.drew (Below.refl _ _)
   obtain ⟨wz,hwd⟩:∃ v,wr.drew=v:=⟨_,rfl⟩
   rw [hwd] at hdr
   have hbz:=HBr.out.trans (hdr.mono HBr.out.size)
   obtain ⟨b,o,rfl,hb,e0,e1,e2⟩:=la_cells (HA.out.below hbz) hx
   obtain ⟨b',o',rfl,hb',g0,g1,g2⟩:=la_cells (HB.out.below hbz) hx
   have HBz:=Hi hbz
   have hZ0:wz=wz:=rfl
   clear hdr hbz hx
   go_wp2_with fail
   refine HT.wp_region (Z:=fun w'=>w'=wz) (S:=fun _=>True) (st:=[]) (by kernel_rfl) ?_
   rw [hwd]
   clear hwd
   refine HT.tk 0 rfl (by intro v hSw;subst hSw;go_simp;try with_reducible rfl) rfl HT.tr ?_
   refine HT.tk 1 rfl (by intro v hSw;subst hSw;go_simp;try with_reducible rfl) rfl HT.tr ?_
   refine HT.tk 2 rfl (by intro v hSw;subst hSw;go_simp;try with_reducible rfl) rfl HT.tr ?_
   refine HT.tk 3 rfl (by intro v hSw;subst hSw;go_simp;try with_reducible rfl) rfl HT.tr ?_
   refine HT.tk 4 rfl (by intro v hSw;subst hSw;go_simp;try with_reducible rfl) rfl HT.tr ?_
   refine HT.tk 5 rfl (by intro v hSw;subst hSw;go_simp;try with_reducible rfl) rfl HT.tr ?_
   refine HT.tk 6 rfl (by intro v hSw;subst hSw;go_simp;try with_reducible rfl) rfl HT.tr ?_
   refine HT.tk 7 rfl (by intro v hSw;subst hSw;go_simp;try with_reducible rfl) rfl HT.tr ?_
   refine HT.tk 8 rfl (by intro v hSw;subst hSw;go_simp;try with_reducible rfl) rfl HT.tr ?_
   refine HT.done (by kernel_rfl) ?_
   go_wp2_with fail
   go_roundw
   case rel=>exact ⟨i+1,by omega,by go_num,HBz⟩
   case measure=>simp [intOf];omega
  ·have HEND:=HBr
   go_wp2_with fail
   go_ret
   exact ⟨rfl,HEND.out⟩
end Go.Proofs.YtpoepignpdfleaaGreatDoor.Nm
namespace Go.Proofs.YtpoepignpdfleaaGreatDoor.HT
open Go
variable {P : Program} {ops : Array Oper} {Q : Exit → Act → World → Prop} {md : Region.Mode} {Z S : World → Prop} {st : List Nat}
theorem two{i j:Nat}{oi oj:Oper}{f:Nat}{listed:Array Bool}{a:Act}{w:World}(hr:Region.ready md ops listed=[i,j])(hi:ops[i]?=some oi)(hj:ops[j]?=some oj)
  (h1:∀ K:Act→World→Prop,Shut (∀ a' w',Z w'→S w'→anyT P md ops Q Z S st f (listed.setIfInBounds i true) a' w'→K a' w')→if Region.wanted oi (yielded ops a.tmps)=true then Oper.wp P oi a w K Q else K (a.put oi.dst undef) w)
  (h2:∀ K:Act→World→Prop,Shut (∀ a' w',Z w'→S w'→anyT P md ops Q Z S st f (listed.setIfInBounds j true) a' w'→K a' w')→if Region.wanted oj (yielded ops a.tmps)=true then Oper.wp P oj a w K Q else K (a.put oj.dst undef) w):anyT P md ops Q Z S st (f+1) listed a w:=
 ⟨fun h0=>by rw [hr] at h0;(cases h0),fun k hk=>by
  rw [hr] at hk
  rcases List.mem_cons.1 hk with rfl | hk
  ·exact wpOp_step hi fun K hK=>h1 K fun a' w' hZ hS hW=>hK a' w' ⟨⟨hZ,fun _=>hS⟩,hW⟩
  ·obtain rfl:=List.mem_singleton.1 hk
   exact wpOp_step hj fun K hK=>h2 K fun a' w' hZ hS hW=>hK a' w' ⟨⟨hZ,fun _=>hS⟩,hW⟩⟩
end Go.Proofs.YtpoepignpdfleaaGreatDoor.HT
namespace Go.Proofs.YtpoepignpdfleaaGreatDoor.Nm
open Go Go.ChangeShapes Go.WideShapes Go.ChangeAt Go.RowKit Lx Args Pa Sh
set_option linter.unusedVariables false
set_option linter.unusedSimpArgs false
theorem split_at{l:List Tz}{k:Nat}{x:Tz}(h:l[k]?=some x):l=l.take k ++ x :: l.drop (k+1):=by
 rw [←drop_at h,List.take_append_drop]
theorem own_max{w:World}{lo:Nat}{e:TypeId}{size n:Nat}{v:Value}{xs:List Value}(h:w.ownsRow lo e size v n xs):n≤maxLen:=by
 rcases h.2 with ⟨_,h0⟩ | ⟨g,cap,cur,_,_,_,h1,h2,_⟩
 ·rw [h0];exact Nat.zero_le _
 ·exact Nat.le_trans h1 h2
end Go.Proofs.YtpoepignpdfleaaGreatDoor.Nm
namespace Go.Proofs.YtpoepignpdfleaaGreatDoor.Nm
open Go Go.ChangeShapes Go.WideShapes Go.ChangeAt Go.RowKit Lx Args Pa Sh
set_option linter.unusedVariables false
set_option linter.unusedSimpArgs false
def rvT:Nat→TypeId
 | 4=>3
 | 7=>44
 | _=>9
def rvZ:Nat→Nat
 | 7=>3
 | _=>1
def rvN(d:RS):Nat→Nat
 | 0=>d.inn.length
 | 1=>d.var.length
 | 2=>d.loo.length
 | 3=>d.fn.length
 | 4=>d.many.length
 | 5=>d.se.length
 | 6=>d.pu.length
 | _=>d.ou.length
def rvX(d:RS):Nat→List Value
 | 0=>d.inn.map strV
 | 1=>d.var.map strV
 | 2=>d.loo.map strV
 | 3=>d.fn.map strV
 | 4=>d.many.map intV
 | 5=>d.se.map strV
 | 6=>d.pu.map strV
 | _=>d.ou.flatMap laC
def rvC:Nat→Nat
 | 5=>7
 | 6=>8
 | 7=>9
 | i=>i
def setV(v:Nat→Value)(i:Nat)(u:Value):Nat→Value:=fun j=>if j=i then u else v j
structure RV(N:Nat→Prop)(lo:Nat)(w:World)(g:Nat)(v:Nat→Value)(d:RS):Prop where
 blk:∃ ba,Blk w g 82 #[v 0,v 1,v 2,v 3,v 4,.int .i64 ba,.bool d.bad.isSome,v 5,v 6,v 7]∧∀ a,d.bad=some a→ba=a
 own:∀ i,i < 8→w.ownsRow lo (rvT i) (rvZ i) (v i) (rvN d i) (rvX d i)
 dis:∀ i j,i < 8→j < 8→i≠j→∀ b,(v i).ownBlock=some b→(v j).ownBlock≠some b
 far:∀ i,i < 8→(v i).ownBlock≠some g
 inN:N g∧∀ i,i < 8→∀ b,(v i).ownBlock=some b→N b
 low:lo≤g∧lo≤w.heap.size
 len:d.many.length=d.fn.length
section
variable {N N' X : Nat → Prop} {lo : Nat} {w w' : World} {g : Nat} {v : Nat → Value} {d d' : RS}
theorem RV.lt(h:RV N lo w g v d):g < w.heap.size:=by obtain ⟨_,h,_⟩:=h.blk;exact h.lt
theorem stL_own{l:List Bs}{u:Value}(h:w.ownsRow lo 9 1 u l.length (l.map strV))(hg:u.ownBlock≠some g):StL w g u l:=by
 obtain ⟨A,c,rfl⟩:=own_sl h
 exact ⟨A,c,rfl,lies_own h,own_max h,fun b o e _ hb=>hg (by rw [e,hb];rfl)⟩
theorem inL_own{l:List Nat}{u:Value}(h:w.ownsRow lo 3 1 u l.length (l.map intV))(hg:u.ownBlock≠some g):InL w g u l:=by
 obtain ⟨A,c,rfl⟩:=own_sl h
 exact ⟨A,c,rfl,lies_own h,own_max h,fun b o e _ hb=>hg (by rw [e,hb];rfl)⟩
theorem RV.ev(h:RV N lo w g v d):EV w g (v 0) (v 1) (v 2) (v 3) (v 4) (v 5) (v 6) (v 7) d d.bad:=
 ⟨h.blk,stL_own (h.own 0 (by decide)) (h.far 0 (by decide)),stL_own (h.own 1 (by decide)) (h.far 1 (by decide)),stL_own (h.own 2 (by decide)) (h.far 2 (by decide)),stL_own (h.own 3 (by decide)) (h.far 3 (by decide)),inL_own (h.own 4 (by decide)) (h.far 4 (by decide)),h.len⟩
theorem RV.mono(h:RV N lo w g v d)(hN:∀ b,N b→b < w.heap.size→N' b):RV N' lo w g v d:=
 ⟨h.blk,h.own,h.dis,h.far,⟨hN g h.inN.1 h.lt,fun i hi b hb=>hN b (h.inN.2 i hi b hb) (own_atV (h.own i hi) b hb).2⟩,h.low,h.len⟩
theorem RV.upd(h:RV N lo w g v d)(hu:Upd X w w')(hg:¬ X g)(hX:∀ i,i < 8→∀ b,(v i).ownBlock=some b→¬ X b):RV N lo w' g v d:=by
 obtain ⟨ba,hb,hba⟩:=h.blk
 exact ⟨⟨ba,hb.upd hu hg,hba⟩,fun i hi=>own_updV (h.own i hi) hu (hX i hi),h.dis,h.far,h.inN,⟨h.low.1,Nat.le_trans h.low.2 hu.size⟩,h.len⟩
theorem RV.below(h:RV N lo w g v d)(hb:Below w.heap.size w w'):RV N lo w' g v d:=h.upd (Upd.of_below hb fun _=>False) id fun _ _ _ _ h=>h
theorem RV.exR(h:RV N lo w g v d){bad:Option Int}(he:EV w' g (v 0) (v 1) (v 2) (v 3) (v 4) (v 5) (v 6) (v 7) d bad)(hu:Upd (fun b=>b=g) w w'):RV N lo w' g v { d with bad:=bad }:=by
 obtain ⟨ba,hb,hba⟩:=he.blk
 exact ⟨⟨ba,hb,hba⟩,fun i hi=>own_updV (h.own i hi) hu fun b hb e=>h.far i hi (by rw [hb,e]),h.dis,h.far,h.inN,⟨h.low.1,Nat.le_trans h.low.2 hu.size⟩,h.len⟩
theorem RV.row(h:RV N lo w g v d)(i:Nat)(hi:i < 8){w8:World}{u:Value}(hu:Upd (fun b=>(v i).ownBlock=some b) w w8)(hown:w8.ownsRow lo (rvT i) (rvZ i) u (rvN d' i) (rvX d' i))(hat:u.ownBlock=(v i).ownBlock∨∃ b,u.ownBlock=some b∧w.heap.size≤b)
  (hd:∀ j,j < 8→j≠i→rvN d' j=rvN d j∧rvX d' j=rvX d j) (hbad:d'.bad=d.bad) (hlen:d'.many.length=d'.fn.length) (hN:∀ b,N b→N' b) (hN':∀ b,w.heap.size≤b→b < w8.heap.size→N' b) :
  RV N' lo (w8.setCell ⟨g,rvC i,none⟩ u) g (setV v i u) d'∧Upd (fun b=>(v i).ownBlock=some b∨b=g) w (w8.setCell ⟨g,rvC i,none⟩ u):=by
 obtain ⟨ba,hb,hba⟩:=h.blk
 have hg:=h.lt
 have hug:u.ownBlock≠some g:=by
  rcases hat with e | ⟨b,e,hb⟩
  ·rw [e];exact h.far i hi
  ·rw [e];intro hh;cases hh;omega
 have hs:Upd (fun b=>b=g) w8 (w8.setCell ⟨g,rvC i,none⟩ u):=(Upd.refl (fun b=>b=g) w8).setCell (p:=⟨g,rvC i,none⟩) (fun _=>rfl) u
 have hb8:=hb.upd hu (h.far i hi)
 have hset:=hb8.set (rvC i) u
 have huj:∀ j,j < 8→j≠i→u.ownBlock≠none→∀ b,u.ownBlock=some b→(v j).ownBlock≠some b:=fun j hj hji _ b hub hvb=>by
  rcases hat with e | ⟨b',e,hb'⟩
  ·exact h.dis i j hi hj (Ne.symm hji) b (by rw [←e];exact hub) hvb
  ·have hbb:b'=b:=Option.some.inj (e.symm.trans hub)
   have:=(own_atV (h.own j hj) b hvb).2;omega
 refine ⟨⟨⟨ba,?_,fun a ha=>hba a (by rw [←hbad];exact ha)⟩,fun j hj=>?_,fun j k hj hk hjk b hjb hkb=>?_,fun j hj=>?_,⟨hN g h.inN.1,fun j hj b hjb=>?_⟩,⟨h.low.1,?_⟩,hlen⟩,?_⟩
 ·rw [hbad]
  have e:(#[v 0,v 1,v 2,v 3,v 4,.int .i64 ba,.bool d.bad.isSome,v 5,v 6,v 7]:Array Value).setIfInBounds (rvC i) u = #[setV v i u 0,setV v i u 1,setV v i u 2,setV v i u 3,setV v i u 4,.int .i64 ba,.bool d.bad.isSome,setV v i u 5,setV v i u 6,setV v i u 7]:=by
   have h8:i = 0∨i = 1∨i = 2∨i = 3∨i = 4∨i = 5∨i = 6∨i = 7:=by omega
   rcases h8 with rfl | rfl | rfl | rfl | rfl | rfl | rfl | rfl <;> rfl
  rw [←e];exact hset
 ·by_cases hji:j=i
  ·subst hji
   unfold setV
   rw [if_pos rfl]
   exact own_updV hown hs fun b hb e=>hug (by rw [hb,e])
  ·unfold setV
   rw [if_neg hji,(hd j hj hji).1,(hd j hj hji).2]
   exact own_updV (own_updV (h.own j hj) hu fun b hb e=>h.dis i j hi hj (Ne.symm hji) b e hb) hs fun b hb e=>h.far j hj (by rw [hb,e])
 ·unfold setV at hjb hkb
  by_cases hji:j=i
  ·rw [if_pos hji] at hjb
   rw [if_neg (fun e=>hjk (hji.trans e.symm))] at hkb
   exact huj k hk (fun e=>hjk (hji.trans e.symm)) (by rw [hjb];simp) b hjb hkb
  ·rw [if_neg hji] at hjb
   by_cases hki:k=i
   ·rw [if_pos hki] at hkb
    exact huj j hj hji (by rw [hkb];simp) b hkb hjb
   ·rw [if_neg hki] at hkb
    exact h.dis j k hj hk hjk b hjb hkb
 ·unfold setV
  by_cases hji:j=i
  ·rw [if_pos hji];exact hug
  ·rw [if_neg hji];exact h.far j hj
 ·unfold setV at hjb
  by_cases hji:j=i
  ·rw [if_pos hji] at hjb
   rcases hat with e | ⟨b',e,hb'⟩
   ·exact hN b (h.inN.2 i hi b (by rw [←e];exact hjb))
   ·have hbb:b'=b:=Option.some.inj (e.symm.trans hjb)
    exact hN' b (by omega) (own_atV hown b hjb).2
  ·rw [if_neg hji] at hjb
   exact hN b (h.inN.2 j hj b hjb)
 ·have:=hu.size;have:=hs.size;have:=h.low.2;omega
 ·exact (hu.mono fun b hb=>.inl hb).trans (hs.mono fun b hb=>.inr hb)
end
def RStP(N:Nat→Prop)(lo:Nat)(w:World)(g:Nat)(d:RS)(m:Nat)(e:Ending)(w':World):Prop:=e = .returned (.tuple #[])∧(∃ v,RV (New N w) lo w' g v d)∧(∀ i,i < 8→rvN d i≤m)∧Upd N w w'
theorem in_st(s:Bs)(wx:World)(g:Nat)(v:Value)(ls:List Bs)(hv:StL wx g v ls):Calls Tryz.prog 24 #[v,.string ⟨s.toArray⟩] wx fun e w'=>e = .returned (.bool (ls.contains s))∧wx=w':=by
 obtain ⟨Av,cv,rfl,hLv,hlv,_⟩:=hv
 have:=in_big Av cv ls ⟨s.toArray⟩ wx hLv hlv
 rw [show (ByteArray.mk s.toArray).data.toList=s by simp] at this
 exact this
theorem EaI.bad{w wx:World}{g:Nat}{v0 v1 v2 v3 v4 v7 v8 v9:Value}{d:RS}{b:Option Int}{k a:Int}{s:Bs}{n:Nat}{A:Option Addr}{la cA:Nat}{B:Option Addr}{lb cB:Nat}(hv:EaI w wx g v0 v1 v2 v3 v4 v7 v8 v9 d b (nB k a s n A la cA B lb cB))(hne:¬ w.heap.size=g)(q:Bool) :
  Calls Tryz.prog 55 #[.pointer (some ⟨g,0,none⟩),.bool q,nzA k a s n A la cA B lb cB] wx fun e w'=>e = .returned (.tuple #[])∧EaI w w' g v0 v1 v2 v3 v4 v7 v8 v9 d (orB b q a) (nB k a s n A la cA B lb cB):=
 (bad_ wx g _ _ _ _ _ _ _ _ d b q k a s n A la cA B lb cB hv.ev).mono fun e w' ⟨h1,h2,h3⟩=>⟨h1,h2,hv.up.trans h3,hv.bx.upd h3 hne⟩
theorem wpList_any{P:Program}{w:World}{ops:Array Oper}{rest:List Oper}{o:Oper}{a:Act}{Q:Exit→Act→World→Prop}(hgd:o.guard=none)(s x:Operand)(t:TypeId)
  (ho:o.op = .call { callee:=.builtin .append,args:=#[s,x],argTypes:=#[t,t] })
  (base:Nat) (e:TypeId) (i:TypeInfo) (z:Value) (size bytes:Nat) (ht:P.underlying t=some (.slice e)) (hi:P.info? e=some i) (hz:i.zero=some z)
  (hsize:i.size=size) (hby:i.bytes=bytes) (hzs:z.cells.size=size) (hsz:0 < size) (v:Value) (n:Nat) (xs:List Value) (hs:a.eval s=v) (hown:w.ownsRow base e size v n xs)
  (A:Option Addr) (m d:Nat) (news:List Value) (hx:a.eval x = .slice A m d) (hl:news.length=m * size) (hL:Lies w A news) (h1:∀ u∈news,u.oneCell'=true) (h63:n+m≤maxLen) (hbytes:(n+m) * bytes≤140737488355328) (hbase:base≤w.heap.size)
  (h:∀ v' w',w'.ownsRow base e size v' (n+m) (xs ++ news)→w.grownBy w' v.ownBlock→(v'.ownBlock=v.ownBlock∨v'.ownBlock=some w.heap.size)→wpList P ops Q rest (a.put o.dst v') w'):wpList P ops Q (o :: rest) a w:=
 wpList_plain hgd fun _ hK=>by
  obtain ⟨v',w',hrun,h2,h3,h4⟩:=run_app_any (P:=P) base t o.type e i z size bytes ht hi hz hsize hby hzs hsz v n xs hown A m d news hl hL h1 h63 hbytes hbase
  unfold Oper.wp execOp
  simp only [ho,resolve,invoke,builtin,Sem.run_bind,Sem.run_pure,Result.andThen_ok,List.map_toArray,List.map_cons,List.map_nil,hs,hx,hrun]
  exact hK _ _ (h v' w' h2 h3 h4)
theorem own_empty(w:World){lo:Nat}(hb:lo≤w.heap.size)(e:TypeId)(size:Nat):(w.alloc (.cells #[] e)).ownsRow lo e size (.slice (some ⟨w.heap.size,0,none⟩) 0 0) 0 []:=
 own_full w hb e size 0 [] (by simp) (by decide)
end Go.Proofs.YtpoepignpdfleaaGreatDoor.Nm
