/- DERIVED. FlPg, FlLv, FlWk, NmNd, NmTb. By an AI agent. -/
import Derived.Test.YtcgibpdjfgjldaaGreatDoorQ01
import Derived.Test.YtcgibpdjfgjldaaGreatDoorQ43
import Derived.Test.YtcgibpdjfgjldaaGreatDoorQ34
import Derived.Test.YtcgibpdjfgjldaaGreatDoorQ02
import Derived.Test.YtcgibpdjfgjldaaGreatDoorQ07
import Derived.Test.YtcgibpdjfgjldaaGreatDoorRows
import Derived.ProofKit
import Derived.LaidMore
import Derived.LaidLaws
import Derived.OpenShut
import Derived.MakeChecks
import Derived.Stop.Joined
import Derived.Lay
set_option maxRecDepth 100000
set_option maxHeartbeats 4000000
set_option linter.unusedVariables false
set_option linter.unusedSimpArgs false
namespace Go.Proofs.YtcgibpdjfgjldaaGreatDoor.Fl
open Go Go.ChangeShapes Go.WideShapes Go.ChangeAt Go.RowKit Lx Args Pa Sh Go.Proofs.YtcgibpdjfgjldaaGreatDoor.Nm
def FpB(s:Bs)(a:Int)(er:Nat):Prop:=BadN s a er∨((wordsL s).er = 0∧∃ x t r c,ProgR (wordsL s).l (.ok [x] (t :: r))∧ckB (embz x) = .ok c∧flB worB XM 61 2000 (embz x) = .bad a er)
def FpP(s:ByteArray)(w:World)(e:Ending)(w':World):Prop:=
 (∃ (k a:Int) (sx:Bs) (n:Nat) (A:Option Addr) (la cA:Nat) (B:Option Addr) (lb cB:Nat) (As:Option Addr) (ls cs:Nat) (Ap:Option Addr) (lp cp:Nat) (Ao:Option Addr) (co:Nat) (x:Tr) (t:Tk) (r:List Tk) (c:St) (d:Sf),e = .returned (.tuple #[nzA k a sx n A la cA B lb cB,.agg #[.slice As ls cs,.slice Ap lp cp,.slice Ao d.ou.length co],.int .i64 0,.int .i64 0])∧(wordsL s.data.toList).er = 0∧ProgR (wordsL s.data.toList).l (.ok [x] (t :: r))∧ckB (embz x) = .ok c∧flB worB XM 61 2000 (embz x) = .ok d ∧
  Lies w' Ao (d.ou.flatMap lbC)∧Below w.heap.size w w') ∨
 (∃ (a:Int) (er:Nat),e = .returned (.tuple #[zA,nA3,.int .i64 a,.int .i64 (er:Int)])∧er≠0∧FpB s.data.toList a er∧Below w.heap.size w w')
theorem fpgm(s:ByteArray)(w:World):Calls Tryz.prog 13 #[.string s] w (FpP s w):=by
 obtain ⟨w0,hw0,hb0,hB,hs0⟩:=a_box w #[.int .i64 0,.string ⟨#[]⟩,.int .u32 0,.int .i64 0,.slice none 0 0,.slice none 0 0];obtain ⟨w1,hw1⟩:∃ w1,w0.alloc (.cells #[.slice none 0 0,.slice none 0 0,.slice none 0 0] 39)=w1:=⟨_,rfl⟩;have hb1:Below w0.heap.size w0 w1:=by rw [←hw1];exact (Below.refl _ _).alloc (Nat.le_refl _) _
 have hs1:w1.heap.size=w.heap.size+2:=by rw [←hw1];simp;omega
 have hC:Blk w1 (w.heap.size+1) 39 #[.slice none 0 0,.slice none 0 0,.slice none 0 0]:=by rw [←hw1,←hs0];exact Blk.new _ _ _
 have HB01:=Hi (hb0.trans (hb1.mono hb0.size));obtain ⟨g,hg⟩:∃ g,w.heap.size=g:=⟨_,rfl⟩;obtain ⟨g',hg'⟩:∃ g',g+1=g':=⟨_,rfl⟩;rw [hg] at hB hC;rw [hg'] at hC;have hgg:¬ g=g':=by omega
 have hgg':¬ g'=g:=by omega
 have HG:=Hi hg;have HG':=Hi hg';have HB:=Hi (hB.below hb1 hB.lt);have HC:=Hi hC;have HW0:=Hi hw0;have HW1:=Hi hw1;have HP:=Hi (pgm s w1);have HS1:=Hi hs1;have HS0:=Hi hs0;clear hw0 hb0 hB hw1 hb1 hC hs1 hs0 hg hg';go_enter Tryz.func13,Tryz.ntmps13;go_upto_region 1 with fail
 rw [HW0.out];rw [HW1.out];simp only [HG.out,HG'.out];go_wp2_with fail
 refine HP.out.mono ?_;rintro e w2 (⟨k,a,sx,n,A,la,cA,B,lb,cB,x,t,r,vs,vp,vo,c,rfl,h1,h2,h3,hT,hN,hb⟩ | ⟨a,er,rfl,hne,hbad,hb⟩)
 ·obtain ⟨As,cs,rfl⟩:=own_sl hN.1;obtain ⟨Ap,cp,rfl⟩:=own_sl hN.2.1;obtain ⟨Ao,co,rfl⟩:=own_sl hN.2.2.1;obtain ⟨w3,hw3,hb3,hX3,hs3⟩:=a_box w2 (nB (k:Int) (a:Int) sx n A la cA B lb cB);obtain ⟨w4,hw4⟩:∃ u,w3.alloc (.cells #[.slice As c.se.length cs,.slice Ap c.pu.length cp,.slice Ao c.ou.length co] 39)=u:=⟨_,rfl⟩;have hb4:Below w3.heap.size w3 w4:=by rw [←hw4];exact (Below.refl _ _).alloc (Nat.le_refl _) _
  have hY4:Blk w4 w3.heap.size 39 #[.slice As c.se.length cs,.slice Ap c.pu.length cp,.slice Ao c.ou.length co]:=by rw [←hw4];exact Blk.new _ _ _
  have hb24:=hb3.trans (hb4.mono hb3.size);have hb14:=hb.trans (hb24.mono hb.size);have hX4:=hX3.below hb4 hX3.lt;have hT4:=TIz.below hb24 (tIz_of hT);have hok:=prog_okG h1 h2;have HL:=Hi (labels_ (embz x) w4 (k:Int) (a:Int) sx n A la cA B lb cB ⟨hT4,hok.1,hok.2.1⟩ hok.2.2 (ck_ar h3));obtain ⟨gn,hgn⟩:∃ gn,w2.heap.size=gn:=⟨_,rfl⟩;obtain ⟨gm,hgm⟩:∃ gm,gn+1=gm:=⟨_,rfl⟩;rw [hgn] at hX4 hX3;rw [hs3,hgn,hgm] at hY4;have hgnm:gn < gm:=by omega
  have HGN:=Hi hgn;have HGM:=Hi hgm;have hg1:g' < gn:=by have:=HC.out.lt;have:=hb.size;omega
  have HX4:=Hi hX4;have HY4:=Hi hY4;have HW3:=Hi hw3;have HW4:=Hi hw4;have HB4:=Hi hb14;have HER:=Hi h1;have HRD:=Hi h2;have HCK:=Hi h3;obtain ⟨⟨e0,e1,e2,e3,e4,e5⟩,z0,z1,z2,z3,z4,z5⟩:=Blk.c6 hX4;have hgx:=hX4.lt;obtain ⟨res,hres⟩:∃ res,flB worB XM 61 2000 (embz x)=res:=⟨_,rfl⟩;have HRES:=Hi hres;rw [hres] at HL;have hgg1:g < gn:=by have:=HG'.out;omega
  clear hN hw3 hb3 hX3 hs3 hw4 hb4 hY4 hb24 hb14 hX4 hT4 hok hT hb h1 h2 h3 hres HP hgn hgm;go_upto_region 2 with fail
  rw [HW3.out,HW4.out];simp only [HGN.out,HGM.out];go_wp2_with fail
  refine (show Calls Tryz.prog 29 #[nzA (k:Int) (a:Int) sx n A la cA B lb cB] w4 _ from HL.out).mono ?_;intro e w5 h5;clear e0 e1 e2 e3 e4 e5 z0 z1 z2 z3 z4 z5 hgx;cases res with
  | bad a1 er1=>
   obtain ⟨her,rfl,hb5⟩:=h5;have hY5:=HY4.out.below hb5 HY4.out.lt;have hX5:=HX4.out.below hb5 HX4.out.lt;have hb15:=HB4.out.trans (hb5.mono HB4.out.size);have hA5:=HB.out.below hb15 HB.out.lt;have hC5:=HC.out.below hb15 HC.out.lt;obtain ⟨d0,d1,d2,f0,f1,f2⟩:=fst3 hY5;have hgy:=hY5.lt;obtain ⟨w6,hw6⟩:∃ u,w5.setCell ⟨gm,2,none⟩ (.slice none 0 0)=u:=⟨_,rfl⟩;have hu6:Upd (fun b=>b=gm) w5 w6:=by rw [←hw6];exact (Upd.refl (fun b=>b=gm) w5).setCell (p:=⟨gm,2,none⟩) (fun _=>rfl) _
   have hB15:=HB01.out.trans (hb15.mono (by have:=HS1.out;omega));have hB16:=hB15.trans (hu6.below (B:=w.heap.size) hB15.size fun b hb=>by have:=HG.out;have:=HG'.out;omega);have hA6:=hA5.upd hu6 (by omega);have hC6:=hC5.upd hu6 (by omega);obtain ⟨⟨e0,e1,e2,e3,e4,e5⟩,z0,z1,z2,z3,z4,z5⟩:=Blk.c6 hA6;obtain ⟨c0,c1,c2,x0,x1,x2⟩:=fst3 hC6;have hgl:=hA6.lt;have hgl':=hC6.lt;obtain ⟨p1,p2,p3⟩:=put9 hgg hA6 hC6 (.int .i64 0) (.string ⟨#[]⟩) (.int .u32 0) (.int .i64 0) (.slice none 0 0) (.slice none 0 0) (.slice none 0 0) (.slice none 0 0) (.slice none 0 0);have HN1:=Hi p1;have HN2:=Hi p2;have hz:((er1:Int) != 0)=true:=by simp;omega
   have HW6:=Hi hw6;have HEND:=Hi (show FpP s w (.returned (.tuple #[zA,nA3,.int .i64 a1,.int .i64 (er1:Int)])) _ from .inr ⟨a1,er1,rfl,her,.inr ⟨HER.out,x,t,r,c,HRD.out,HCK.out,HRES.out⟩,hB16.trans (p3.below (B:=w.heap.size) hB16.size fun b hb=>by have:=HG.out;have:=HG'.out;omega)⟩);clear hb5 hY5 hX5 hb15 hB15 hB16 hA5 hC5 hw6 hu6 hA6 hC6 p1 p2 p3 HL her;go_upto_region 5 with fail
   rw [HW6.out];go_wp2_with fail
   exact bodyPost_ret (v:=.tuple #[zA,nA3,.int .i64 a1,.int .i64 (er1:Int)]) (res_cctt rfl _ _ rfl rfl HN1.out HN2.out rfl rfl rfl rfl) rfl HEND.out
  | ok d=>
   obtain ⟨hou,⟨A5,k5,rfl,hL5⟩,hb5⟩:=h5;have hY5:=HY4.out.below hb5 HY4.out.lt;have hX5:=HX4.out.below hb5 HX4.out.lt;have hb15:=HB4.out.trans (hb5.mono HB4.out.size);have hA5:=HB.out.below hb15 HB.out.lt;have hC5:=HC.out.below hb15 HC.out.lt;obtain ⟨d0,d1,d2,f0,f1,f2⟩:=fst3 hY5;have hgy:=hY5.lt;obtain ⟨w6,hw6⟩:∃ u,w5.setCell ⟨gm,2,none⟩ (.slice A5 d.ou.length k5)=u:=⟨_,rfl⟩;have hu6:Upd (fun b=>b=gm) w5 w6:=by rw [←hw6];exact (Upd.refl (fun b=>b=gm) w5).setCell (p:=⟨gm,2,none⟩) (fun _=>rfl) _
   have hY6:Blk w6 gm 39 #[.slice As c.se.length cs,.slice Ap c.pu.length cp,.slice A5 d.ou.length k5]:=by rw [←hw6];exact hY5.set 2 _
   have hB15:=HB01.out.trans (hb15.mono (by have:=HS1.out;omega));have hB16:=hB15.trans (hu6.below (B:=w.heap.size) hB15.size fun b hb=>by have:=HG.out;have:=HG'.out;omega);have hA6:=hA5.upd hu6 (by omega);have hC6:=hC5.upd hu6 (by omega);have hX6:=hX5.upd hu6 (by omega);obtain ⟨c0,c1,c2,x0,x1,x2⟩:=fst3 hC6;obtain ⟨⟨e0,e1,e2,e3,e4,e5⟩,z0,z1,z2,z3,z4,z5⟩:=Blk.c6 hA6;obtain ⟨⟨b0,b1,b2,b3,b4,b5⟩,y0,y1,y2,y3,y4,y5⟩:=Blk.c6 hX6;obtain ⟨q0,q1,q2,u0,u1,u2⟩:=fst3 hY6;have hgl:=hA6.lt;have hgl':=hC6.lt;have hgl2:=hX6.lt;have hgl3:=hY6.lt;obtain ⟨p1,p2,p3⟩:=put9 hgg hA6 hC6 (.int .i64 (k:Int)) (.string ⟨sx.toArray⟩) (.int .u32 (n:Int)) (.int .i64 (a:Int)) (.slice A la cA) (.slice B lb cB) (.slice As c.se.length cs) (.slice Ap c.pu.length cp) (.slice A5 d.ou.length k5);obtain ⟨wp,hwp⟩:∃ wp,Nm.put3 (Pa.put6 w6 g (.int .i64 (k:Int)) (.string ⟨sx.toArray⟩) (.int .u32 (n:Int)) (.int .i64 (a:Int)) (.slice A la cA) (.slice B lb cB)) g' (.slice As c.se.length cs) (.slice Ap c.pu.length cp) (.slice A5 d.ou.length k5)=wp:=⟨_,rfl⟩;rw [hwp] at p1 p2 p3;have hdr:Below wp.heap.size wp wp.drew:=Below.drew (Below.refl _ _);have HN1:=Hi (p1.below hdr p1.lt);have HN2:=Hi (p2.below hdr p2.lt);have p3':=p3.trans (Upd.of_below hdr (fun b=>b=g∨b=g'));have HEND:=Hi (show FpP s w (.returned (.tuple #[nzA (k:Int) (a:Int) sx n A la cA B lb cB,.agg #[.slice As c.se.length cs,.slice Ap c.pu.length cp,.slice A5 d.ou.length k5],.int .i64 0,.int .i64 0])) wp.drew from
    .inl ⟨k,a,sx,n,A,la,cA,B,lb,cB,As,_,cs,Ap,_,cp,A5,k5,x,t,r,c,d,rfl,HER.out,HRD.out,HCK.out,HRES.out,lies_own (Nm.own_updV (Nm.own_updV hL5 hu6 fun b hb e=>by have:=(Nm.own_atV hL5 b hb).1;have:=HY4.out.lt;omega) p3' fun b hb e=>by have:=(Nm.own_atV hL5 b hb).1;have:=HY4.out.lt;omega),hB16.trans (p3'.below (B:=w.heap.size) hB16.size fun b hb=>by have:=HG.out;have:=HG'.out;omega)⟩)
   have HW6:=Hi hw6;have hwp':=hwp;unfold Nm.put3 Pa.put6 at hwp';have HWP:=Hi hwp';have i1:¬ g=gm:=by omega
   have i2:¬ gm=g:=by omega
   have i3:¬ g'=gm:=by omega
   have i4:¬ gm=g':=by omega
   have i5:¬ g=gn:=by omega
   have i6:¬ gn=g:=by omega
   have i7:¬ g'=gn:=by omega
   have i8:¬ gn=g':=by omega
   clear hb5 hY5 hX5 hb15 hB15 hB16 hA5 hC5 hw6 hu6 hA6 hC6 hX6 hY6 p1 p2 p3 p3' hwp hwp' hdr HL hou hL5;go_upto_region 5 with fail
   rw [HW6.out];go_upto_region 7 with fail
   go_region
   all_goals (
    rw [HWP.out];go_wp2_with fail
    exact bodyPost_ret (v:=.tuple #[nzA (k:Int) (a:Int) sx n A la cA B lb cB,.agg #[.slice As c.se.length cs,.slice Ap c.pu.length cp,.slice A5 d.ou.length k5],.int .i64 0,.int .i64 0]) (res_cctt rfl _ _ rfl rfl HN1.out HN2.out rfl rfl rfl rfl) rfl HEND.out)
 ·have hX:=HB.out.below hb HB.out.lt;have hY:=HC.out.below hb HC.out.lt;obtain ⟨w3,hw3,hb3,hX3,hs3⟩:=a_box w2 #[.int .i64 0,.string ⟨#[]⟩,.int .u32 0,.int .i64 0,.slice none 0 0,.slice none 0 0];obtain ⟨w4,hw4⟩:∃ u,w3.alloc (.cells #[.slice none 0 0,.slice none 0 0,.slice none 0 0] 39)=u:=⟨_,rfl⟩;have hb4:Below w3.heap.size w3 w4:=by rw [←hw4];exact (Below.refl _ _).alloc (Nat.le_refl _) _
  have hb24:=hb3.trans (hb4.mono hb3.size);have hb14:=hb.trans (hb24.mono hb.size);have hX':=hX.below hb24 hX.lt;have hY':=hY.below hb24 hY.lt;obtain ⟨⟨e0,e1,e2,e3,e4,e5⟩,z0,z1,z2,z3,z4,z5⟩:=Blk.c6 hX';obtain ⟨c0,c1,c2,f0,f1,f2⟩:=fst3 hY';have hgl:=hX'.lt;have hgl':=hY'.lt;obtain ⟨p1,p2,p3⟩:=put9 hgg hX' hY' (.int .i64 0) (.string ⟨#[]⟩) (.int .u32 0) (.int .i64 0) (.slice none 0 0) (.slice none 0 0) (.slice none 0 0) (.slice none 0 0) (.slice none 0 0);have HN1:=Hi p1;have HN2:=Hi p2;have hz:((er:Int) != 0)=true:=by simp;omega
  have HEND:=Hi (show FpP s w (.returned (.tuple #[zA,nA3,.int .i64 a,.int .i64 (er:Int)])) _ from .inr ⟨a,er,rfl,hne,.inl hbad,(HB01.out.trans (hb14.mono (by have:=HS1.out;omega))).trans (p3.below (by have:=hb14.size;have:=HS1.out;omega) fun b hb=>by have:=HG.out;have:=HG'.out;omega)⟩);have HW3:=Hi hw3;have HW4:=Hi hw4;clear hX hY hX' hY' hb hb14 hb24 hb3 hb4 hX3 hw3 hw4 hs3 p1 p2 p3 hbad hne;go_upto_region 2 with fail
  rw [HW3.out,HW4.out];go_wp2_with fail
  exact bodyPost_ret (v:=.tuple #[zA,nA3,.int .i64 a,.int .i64 (er:Int)]) (res_cctt rfl _ _ rfl rfl HN1.out HN2.out rfl rfl rfl rfl) rfl HEND.out
def txC:Bs:=[115,101,99,114,101,116,32,97,59,32,112,117,98,108,105,99,32,112,59,32,111,117,116,32,111,32,61,32,97,32,94,32,112,59,32,115,104,111,119,32,113,32,61,32,112,59]
def txD:Bs:=[115,101,99,114,101,116,32,97,59,32,111,117,116,32,111,32,61,32,49,32,60,60,32,97,59]
def tkC':List Tk:=[⟨3,[115,101,99,114,101,116],0⟩,⟨1,[97],7⟩,⟨4,[59],8⟩,⟨3,[112,117,98,108,105,99],10⟩,⟨1,[112],17⟩,⟨4,[59],18⟩,⟨3,[111,117,116],20⟩,⟨1,[111],24⟩,⟨4,[61],26⟩,⟨1,[97],28⟩,⟨4,[94],30⟩,⟨1,[112],32⟩,⟨4,[59],33⟩,⟨3,[115,104,111,119],35⟩,⟨1,[113],40⟩,⟨4,[61],42⟩,⟨1,[112],44⟩,⟨4,[59],45⟩,⟨0,[],46⟩]
def tkD':List Tk:=[⟨3,[115,101,99,114,101,116],0⟩,⟨1,[97],7⟩,⟨4,[59],8⟩,⟨3,[111,117,116],10⟩,⟨1,[111],14⟩,⟨4,[61],16⟩,⟨2,[49],18⟩,⟨4,[60,60],20⟩,⟨1,[97],23⟩,⟨4,[59],24⟩,⟨0,[],25⟩]
def zsC:List Tr:=[.mk 6 0 [] 0 [[97]] [],.mk 7 10 [] 0 [[112]] [],.mk 8 20 [111] 0 [] [.mk 3 28 [94] 0 [] [.mk 1 28 [97] 0 [] [],.mk 1 32 [112] 0 [] []]],.mk 9 35 [113] 0 [] [.mk 1 44 [112] 0 [] []]]
def zsD:List Tr:=[.mk 6 0 [] 0 [[97]] [],.mk 8 10 [111] 0 [] [.mk 4 18 [60,60] 0 [] [.mk 0 18 [] 1 [] [],.mk 1 23 [97] 0 [] []]]]
theorem wordsC:wordsL txC=⟨tkC',0,0⟩:=by rfl
theorem wordsD:wordsL txD=⟨tkD',0,0⟩:=by rfl
theorem treeC:pF numV 60 (.stmts []) 0 tkC'=some (.ok zsC [⟨0,[],46⟩]):=by rfl
theorem treeD:pF numV 60 (.stmts []) 0 tkD'=some (.ok zsD [⟨0,[],25⟩]):=by rfl
theorem progC:ProgR tkC' (.ok [.mk 13 0 [] 0 [] zsC] [⟨0,[],46⟩]):=⟨zsC,rfl,⟨60,fun f hf=>pF_mono numV 60 f hf _ _ _ _ treeC⟩,_,_,rfl,rfl⟩
theorem progD:ProgR tkD' (.ok [.mk 13 0 [] 0 [] zsD] [⟨0,[],25⟩]):=⟨zsD,rfl,⟨60,fun f hf=>pF_mono numV 60 f hf _ _ _ _ treeD⟩,_,_,rfl,rfl⟩
theorem ckC:∃ c,ckB (embz (.mk 13 0 [] 0 [] zsC)) = .ok c:=⟨_,rfl⟩
theorem ckD:∃ c,ckB (embz (.mk 13 0 [] 0 [] zsD)) = .ok c:=⟨_,rfl⟩
theorem flC:∃ d,flB worB XM 61 2000 (embz (.mk 13 0 [] 0 [] zsC)) = .ok d∧d.ou=[([111],true,false),([113],false,true)]:=⟨_,rfl,rfl⟩
theorem flD:flB worB XM 61 2000 (embz (.mk 13 0 [] 0 [] zsD)) = .bad 23 130:=by rfl
theorem fpC(w:World):Calls Tryz.prog 13 #[.string ⟨txC.toArray⟩] w fun e w'=>∃ (k a:Int) (sx:Bs) (n:Nat) (A:Option Addr) (la cA:Nat) (B:Option Addr) (lb cB:Nat) (As:Option Addr) (ls cs:Nat) (Ap:Option Addr) (lp cp:Nat) (Ao:Option Addr) (co:Nat),e = .returned (.tuple #[nzA k a sx n A la cA B lb cB,.agg #[.slice As ls cs,.slice Ap lp cp,.slice Ao 2 co],.int .i64 0,.int .i64 0])∧Lies w' Ao (([([111],true,false),([113],false,true)]:List (Bs×Bool×Bool)).flatMap lbC)∧Below w.heap.size w w':=by
 refine (fpgm ⟨txC.toArray⟩ w).mono fun e w' h=>?_
 have hw:wordsL (⟨txC.toArray⟩:ByteArray).data.toList=⟨tkC',0,0⟩:=wordsC;obtain ⟨c0,hc0⟩:=ckC;obtain ⟨d0,hd0,hou⟩:=flC;rcases h with ⟨k,a,sx,n,A,la,cA,B,lb,cB,As,ls,cs,Ap,lp,cp,Ao,co,x,t,r,c,d,rfl,h1,h2,h3,h4,hL,hb⟩ | ⟨a,er,rfl,hne,hbad,hb⟩
 ·rw [hw] at h2;obtain rfl:=prog_one h2 progC;rw [hd0] at h4;cases h4;rw [hou] at hL;rw [hou];exact ⟨k,a,sx,n,A,la,cA,B,lb,cB,As,ls,cs,Ap,lp,cp,Ao,co,rfl,hL,hb⟩
 ·exfalso;rcases hbad with (⟨a',_,h⟩ | ⟨_,_,x,t,r,h,h'⟩) | ⟨_,x,t,r,c,h,h',h''⟩
  ·exact prog_ok_bad (l:=wordsL (⟨txC.toArray⟩:ByteArray).data.toList) (by rw [hw]) (by rw [hw];exact progC) h
  ·rw [hw] at h;obtain rfl:=prog_one h progC;rw [hc0] at h';cases h'
  ·rw [hw] at h;obtain rfl:=prog_one h progC;rw [hd0] at h'';cases h''
theorem fpD(w:World):Calls Tryz.prog 13 #[.string ⟨txD.toArray⟩] w fun e w'=>e = .returned (.tuple #[zA,nA3,.int .i64 23,.int .i64 130])∧Below w.heap.size w w':=by
 refine (fpgm ⟨txD.toArray⟩ w).mono fun e w' h=>?_
 have hw:wordsL (⟨txD.toArray⟩:ByteArray).data.toList=⟨tkD',0,0⟩:=wordsD;obtain ⟨c0,hc0⟩:=ckD;rcases h with ⟨k,a,sx,n,A,la,cA,B,lb,cB,As,ls,cs,Ap,lp,cp,Ao,co,x,t,r,c,d,rfl,h1,h2,h3,h4,hL,hb⟩ | ⟨a,er,rfl,hne,hbad,hb⟩
 ·exfalso;rw [hw] at h2;obtain rfl:=prog_one h2 progD;rw [flD] at h4;cases h4
 ·rcases hbad with (⟨a',_,h⟩ | ⟨_,_,x,t,r,h,h'⟩) | ⟨_,x,t,r,c,h,h',h''⟩
  ·exact (prog_ok_bad (l:=wordsL (⟨txD.toArray⟩:ByteArray).data.toList) (by rw [hw]) (by rw [hw];exact progD) h).elim
  ·rw [hw] at h;obtain rfl:=prog_one h progD;rw [hc0] at h';cases h'
  ·rw [hw] at h;obtain rfl:=prog_one h progD;rw [flD] at h'';cases h'';exact ⟨rfl,hb⟩
theorem lives(w:World):Calls Tryz.prog 10 #[] w fun e w'=>e = .returned (.bool true)∧Below w.heap.size w w':=by
 have HA:=Hi (fpC w);have HBB:=Hi fpD;go_enter Tryz.func10,Tryz.ntmps10;go_wp2_with fail
 refine (show Calls Tryz.prog 13 #[.string ⟨#[115,101,99,114,101,116,32,97,59,32,112,117,98,108,105,99,32,112,59,32,111,117,116,32,111,32,61,32,97,32,94,32,112,59,32,115,104,111,119,32,113,32,61,32,112,59]⟩] w _ from HA.out).mono ?_;rintro e w1 ⟨k,a,sx,n,A,la,cA,B,lb,cB,As,ls,cs,Ap,lp,cp,Ao,co,rfl,hL,hb1⟩;obtain ⟨w2,hw2,hb2,hX2,hs2⟩:=a_box w1 (nB k a sx n A la cA B lb cB);obtain ⟨w3,hw3⟩:∃ w3,w2.alloc (.cells #[.slice As ls cs,.slice Ap lp cp,.slice Ao 2 co] 39)=w3:=⟨_,rfl⟩;have hb3:Below w2.heap.size w2 w3:=by rw [←hw3];exact (Below.refl _ _).alloc (Nat.le_refl _) _
 have hX3:Blk w3 w2.heap.size 39 #[.slice As ls cs,.slice Ap lp cp,.slice Ao 2 co]:=by rw [←hw3];exact Blk.new _ _ _
 rw [hs2] at hX3;have hb23:=hb2.trans (hb3.mono hb2.size);have HL3:=Hi (hL.below hb23);have HB:=Hi (hb1.trans (hb23.mono hb1.size));have HX3:=Hi hX3;have HW2:=Hi hw2;have HW3:=Hi hw3;have HC:=Hi (HBB.out w3);clear hb1 hb2 hb3 hb23 hw2 hw3 hX2 hX3 hs2 HA hL;go_upto_region 2 with fail
 rw [HW2.out,HW3.out];go_wp2_with fail
 refine (show Calls Tryz.prog 13 #[.string ⟨#[115,101,99,114,101,116,32,97,59,32,111,117,116,32,111,32,61,32,49,32,60,60,32,97,59]⟩] w3 _ from HC.out).mono ?_;rintro e w4 ⟨rfl,hb4⟩;obtain ⟨w5,hw5,hb5,hX5,hs5⟩:=a_box w4 #[.int .i64 0,.string ⟨#[]⟩,.int .u32 0,.int .i64 0,.slice none 0 0,.slice none 0 0];obtain ⟨w6,hw6⟩:∃ w6,w5.alloc (.cells #[.slice none 0 0,.slice none 0 0,.slice none 0 0] 39)=w6:=⟨_,rfl⟩;have hb6:Below w5.heap.size w5 w6:=by rw [←hw6];exact (Below.refl _ _).alloc (Nat.le_refl _) _
 have hb36:=hb4.trans ((hb5.trans (hb6.mono hb5.size)).mono hb4.size);have hY6:=HX3.out.below hb36 HX3.out.lt;obtain ⟨c0,c1,c2,f0,f1,f2⟩:=fst3 hY6;have hgl:=hY6.lt;have hL6:=HL3.out.below hb36;obtain ⟨b1,o1,rfl,hl1,g10,g11,g12⟩:=lb_cells (l:=[([111],true,false),([113],false,true)]) hL6 (i:=0) (x:=([111],true,false)) rfl;obtain ⟨b2,o2,hA2,hl2,g20,g21,g22⟩:=lb_cells (l:=[([111],true,false),([113],false,true)]) hL6 (i:=1) (x:=([113],false,true)) rfl;simp only [Option.some.injEq,Addr.mk.injEq,and_true] at hA2;obtain ⟨rfl,rfl⟩:=hA2;simp only [Nat.zero_mul,Nat.add_zero] at g10 g11 g12;simp only [Nat.one_mul,Nat.add_assoc,Nat.reduceAdd] at g20 g21 g22;have HB6:=Hi (HB.out.trans (hb36.mono HB.out.size));have HW5:=Hi hw5;have HW6:=Hi hw6;clear hb4 hb5 hb6 hb36 hw5 hw6 hX5 hs5 hL6 hY6;go_upto_region 3 with fail
 rw [HW5.out,HW6.out];go_wp2_with fail
 go_ret;exact ⟨rfl,HB6.out⟩
end Go.Proofs.YtcgibpdjfgjldaaGreatDoor.Fl
namespace Go.Proofs.YtcgibpdjfgjldaaGreatDoor.Fl
open Go Go.ChangeShapes Go.WideShapes Go.ChangeAt Go.RowKit Lx Args Pa Sh Go.Proofs.YtcgibpdjfgjldaaGreatDoor.Nm
theorem HFc:Hid (∀ (z:Tz),okG z→nbz z≤1099511627776→∀ (w:World) (k a:Int) (s:Bs) (n:Nat) (A:Option Addr) (la cA:Nat) (B:Option Addr) (lb cB:Nat),TIc True w z (nzC k a s n A la cA B lb cB)→Calls Tryz.prog 11 #[nzA k a s n A la cA B lb cB] w (FkP w (fkB worB XM 61 2000 z))):=
 Hi fun z hz _ w k a s n A la cA B lb cB hT=>fcheck z hz w k a s n A la cA B lb cB hT
theorem HGc:Hid (∀ (s:Bs) (x:Tr) (t:Tk) (r:List Tk),(wordsL s).er = 0→ProgR (wordsL s).l (.ok [x] (t :: r))→okG (embz x)∧okG (opz (embz x))):=
 Hi fun s x t r he h=>⟨prog_okG he h,okG_op (prog_okG he h)⟩
theorem walkO(W:World)(s:ByteArray):Calls Tryz.prog 3 #[.string s] W fun e W'=>e = .returned (.bool true)∧Below W.heap.size W W':=walkOpen HFc (Hi lives) HGc W s
theorem walkM(W:World)(s:ByteArray):Calls Tryz.prog 5 #[.string s] W fun e W'=>e = .returned (.bool true)∧Below W.heap.size W W':=walkMore HFc (Hi lives) HGc W s
end Go.Proofs.YtcgibpdjfgjldaaGreatDoor.Fl
namespace Go.Proofs.YtcgibpdjfgjldaaGreatDoor.Sh
open Go Go.ChangeShapes Go.WideShapes Go.ChangeAt Go.RowKit Lx Args Pa
section
variable {H : Type} {enc : TypeId × Value → H} {w : World} {base : Nat} {spare : Nat → Bool} {held : Bool}
end
end Go.Proofs.YtcgibpdjfgjldaaGreatDoor.Sh
namespace Go.Proofs.YtcgibpdjfgjldaaGreatDoor.Nm
open Go.ChangeShapes Go.WideShapes Go.ChangeAt Go.RowKit
theorem fit_one{H:Type}{P:Program}{t:TypeId}{ts:List TypeId}{d:DataW H}{ds:List (DataW H)}(h:(DataW.weightsEach P (t :: ts) (d :: ds)).all (·≤reachBytes)=true) :
  (d.weights P t).all (·≤reachBytes)=true∧(DataW.weightsEach P ts ds).all (·≤reachBytes)=true:=by
 simp only [DataW.weightsEach,List.all_append,Bool.and_eq_true] at h;exact h
theorem witRow{H:Type}{enc:TypeId×Value→H}{C:Checked}{os:Os}{f:FuncId}{fn:Func}{s:OpenSpec}{conds:List PathCond}{apart:Bool}{laid:List (String×DataW Unit)}(modest:Bool)(w0:World)(args:Array Value)(hos:w0.os=os)
  (hsh:(w0.forCall (fun _ _=>0) ⟨#[],args,[]⟩).Shaped C.prog)
  (hok:Input.okWideB C.prog (w0.forCall (fun _ _=>0) ⟨#[],args,[]⟩) f ⟨#[],args,[]⟩=true)
  (hrow:s.preRow enc C.prog fn conds apart laid (w0.forCall (fun _ _=>0) ⟨#[],args,[]⟩).memory args) :
  ∃ (w:World) (tape:Tape) (i:Input),w.os=os∧(w.forCall tape i).Shaped C.prog∧i.vars=[]∧Input.okWide C.prog (w.forCall tape i) .any w.heap.size f i ∧
   s.preRow enc C.prog fn conds apart laid (w.forCall tape i).memory i.args∧({ modest:=modest }:Assume).holds C.prog (lone (Frame.enter C.prog f i.args .normal) [] (w.forCall tape i)):=
 ⟨w0,fun _ _=>0,⟨#[],args,[]⟩,hos,hsh,(Input.okWide_of_okWideB (base:=0) hok).1,(Input.okWide_of_okWideB hok).2,hrow,by
  simp only [Assume.holds];exact ⟨by simp,by simp,fun _=>Modest.zero,by simp,by simp⟩⟩
end Go.Proofs.YtcgibpdjfgjldaaGreatDoor.Nm
