/- DERIVED. EvPg, EvBd, EvEx, EvLv. By an AI agent. -/
import Derived.Test.YtcgibpdjfgjldaaGreatDoorT41
set_option maxRecDepth 100000
set_option maxHeartbeats 8000000
set_option linter.unusedVariables false
set_option linter.unusedSimpArgs false
namespace Go.Proofs.YtcgibpdjfgjldaaGreatDoor
namespace Ev
open Go Go.ChangeShapes Go.WideShapes Go.ChangeAt Go.RowKit Lx Args Pa Sh Go.Proofs.YtcgibpdjfgjldaaGreatDoor.Nm Fl
def FpT(s:ByteArray)(w:World)(e:Ending)(w':World):Prop:=
 (∃ (k a:Int) (sx:Bs) (n:Nat) (A:Option Addr) (la cA:Nat) (B:Option Addr) (lb cB:Nat) (As:Option Addr) (ls cs:Nat) (Ap:Option Addr) (lp cp:Nat) (Ao:Option Addr) (co:Nat) (x:Tr) (t:Tk) (r:List Tk) (c:St) (d:Sf),e = .returned (.tuple #[nzA k a sx n A la cA B lb cB,.agg #[.slice As ls cs,.slice Ap lp cp,.slice Ao d.ou.length co],.int .i64 0,.int .i64 0])/\(wordsL s.data.toList).er = 0/\ProgR (wordsL s.data.toList).l (.ok [x] (t :: r))/\ckB (embz x) = .ok c/\flB worB XM 61 2000 (embz x) = .ok d /\
  Lies w' Ao (d.ou.flatMap lbC)/\Below w.heap.size w w'/\TrV w' (embz x) k a sx n A la cA B lb cB) \/
 (∃ (a:Int) (er:Nat),e = .returned (.tuple #[zA,nA3,.int .i64 a,.int .i64 (er:Int)])/\er≠0/\FpB s.data.toList a er/\Below w.heap.size w w')
theorem fpgmT(s:ByteArray)(w:World):Calls Tryz.prog 13 #[.string s] w (FpT s w):=by
 obtain ⟨w0,hw0,hb0,hB,hs0⟩:=q05 w #[.int .i64 0,.string ⟨#[]⟩,.int .u32 0,.int .i64 0,.slice none 0 0,.slice none 0 0];obtain ⟨w1,hw1,hb1,-⟩:=alK w0 #[.slice none 0 0,.slice none 0 0,.slice none 0 0] 39;have hs1:w1.heap.size=w.heap.size+2:=by rw [<-hw1];simp;omega
 have hC:Blk w1 (w.heap.size+1) 39 #[.slice none 0 0,.slice none 0 0,.slice none 0 0]:=by rw [<-hw1,<-hs0];exact Blk.new _ _ _
 have HB01:=Hi (hb0.trans (hb1.mono hb0.size));obtain ⟨g,hg⟩:∃ g,w.heap.size=g:=⟨_,rfl⟩;obtain ⟨g',hg'⟩:∃ g',g+1=g':=⟨_,rfl⟩;rw [hg] at hB hC;rw [hg'] at hC;have hgg:¬ g=g':=V0;have hgg':¬ g'=g:=V0;have HG:=Hi hg;have HG':=Hi hg';have HB:=Hi (hB.below hb1 hB.lt);have HC:=Hi hC;have HW0:=Hi hw0;have HW1:=Hi hw1;have HP:=Hi (pgm s w1);have HS1:=Hi hs1;have HS0:=Hi hs0;clear hw0 hb0 hB hw1 hb1 hC hs1 hs0 hg hg';go_enter Tryz.func13,Tryz.ntmps13;go_upto_region 1 with fail
 rw [HW0.out];rw [HW1.out];simp only [HG.out,HG'.out];go_wp2_with fail
 refine HP.out.mono ?_;rintro e w2 (⟨k,a,sx,n,A,la,cA,B,lb,cB,x,t,r,vs,vp,vo,c,rfl,h1,h2,h3,hT,hN,hb⟩ | ⟨a,er,rfl,hne,hbad,hb⟩)
 ·obtain ⟨As,cs,rfl⟩:=q0x hN.1;obtain ⟨Ap,cp,rfl⟩:=q0x hN.2.1;obtain ⟨Ao,co,rfl⟩:=q0x hN.2.2.1;obtain ⟨w3,hw3,hb3,hX3,hs3⟩:=q05 w2 (nB (k:Int) (a:Int) sx n A la cA B lb cB);obtain ⟨w4,hw4,hb4,hY4⟩:=alK w3 #[.slice As c.se.length cs,.slice Ap c.pu.length cp,.slice Ao c.ou.length co] 39;have hb24:=hb3.trans (hb4.mono hb3.size);have hb14:=hb.trans (hb24.mono hb.size);have hX4:=hX3.below hb4 hX3.lt;have hT4:=TIz.below hb24 (q2W hT);have hok:=q5D h1 h2;have HL:=Hi (labels_ (embz x) w4 (k:Int) (a:Int) sx n A la cA B lb cB ⟨hT4,hok.1,hok.2.1⟩ hok.2.2 (ck_ar h3));obtain ⟨gn,hgn⟩:∃ gn,w2.heap.size=gn:=⟨_,rfl⟩;obtain ⟨gm,hgm⟩:∃ gm,gn+1=gm:=⟨_,rfl⟩;rw [hgn] at hX4 hX3;rw [hs3,hgn,hgm] at hY4;have hgnm:gn < gm:=V0;have HGN:=Hi hgn;have HGM:=Hi hgm;have hg1:g' < gn:=by have:=HC.out.lt;have:=hb.size;omega
  have HX4:=Hi hX4;have HY4:=Hi hY4;have HW3:=Hi hw3;have HW4:=Hi hw4;have HB4:=Hi hb14;have HER:=Hi h1;have HRD:=Hi h2;have HCK:=Hi h3;obtain ⟨⟨e0,e1,e2,e3,e4,e5⟩,z0,z1,z2,z3,z4,z5⟩:=Blk.c6 hX4;have hgx:=hX4.lt;obtain ⟨res,hres⟩:∃ res,flB worB XM 61 2000 (embz x)=res:=⟨_,rfl⟩;have HRES:=Hi hres;rw [hres] at HL;have hgg1:g < gn:=by have:=HG'.out;omega
  have HTI:=Hi hT;have HB24:=Hi hb24;clear hN hw3 hb3 hX3 hs3 hw4 hb4 hY4 hb24 hb14 hX4 hT4 hok hT hb h1 h2 h3 hres HP hgn hgm;go_upto_region 2 with fail
  rw [HW3.out,HW4.out];simp only [HGN.out,HGM.out];go_wp2_with fail
  refine (show Calls Tryz.prog 29 #[nzA (k:Int) (a:Int) sx n A la cA B lb cB] w4 _ from HL.out).mono ?_;intro e w5 h5;clear e0 e1 e2 e3 e4 e5 z0 z1 z2 z3 z4 z5 hgx;cases res with
  | bad a1 er1=>
   obtain ⟨her,rfl,hb5⟩:=h5;have hY5:=HY4.out.below hb5 HY4.out.lt;have hX5:=HX4.out.below hb5 HX4.out.lt;have hb15:=HB4.out.trans (hb5.mono HB4.out.size);have hA5:=HB.out.below hb15 HB.out.lt;have hC5:=HC.out.below hb15 HC.out.lt;obtain ⟨d0,d1,d2,f0,f1,f2⟩:=fst3 hY5;have hgy:=hY5.lt;obtain ⟨w6,hw6⟩:∃ u,w5.setCell ⟨gm,2,none⟩ (.slice none 0 0)=u:=⟨_,rfl⟩;have hu6:Upd (fun b=>b=gm) w5 w6:=V3P;have hB15:=HB01.out.trans (hb15.mono VP);have hB16:=hB15.trans (hu6.below (B:=w.heap.size) hB15.size fun b hb=>V0x);have hA6:=hA5.upd hu6 V0;have hC6:=hC5.upd hu6 V0;obtain ⟨⟨e0,e1,e2,e3,e4,e5⟩,z0,z1,z2,z3,z4,z5⟩:=Blk.c6 hA6;obtain ⟨c0,c1,c2,x0,x1,x2⟩:=fst3 hC6;have hgl:=hA6.lt;have hgl':=hC6.lt;obtain ⟨p1,p2,p3⟩:=put9 hgg hA6 hC6 (.int .i64 0) (.string ⟨#[]⟩) (.int .u32 0) (.int .i64 0) (.slice none 0 0) (.slice none 0 0) (.slice none 0 0) (.slice none 0 0) (.slice none 0 0);have HN1:=Hi p1;have HN2:=Hi p2;have hz:((er1:Int) != 0)=true:=V4;have HW6:=Hi hw6;have HEND:=Hi (show FpT s w (.returned (.tuple #[zA,nA3,.int .i64 a1,.int .i64 (er1:Int)])) _ from .inr ⟨a1,er1,rfl,her,.inr ⟨HER.out,x,t,r,c,HRD.out,HCK.out,HRES.out⟩,hB16.trans (p3.below (B:=w.heap.size) hB16.size fun b hb=>V0x)⟩);clear hb5 hY5 hX5 hb15 hB15 hB16 hA5 hC5 hw6 hu6 hA6 hC6 p1 p2 p3 HL her;go_upto_region 5 with fail
   rw [HW6.out];go_wp2_with fail
   exact bodyPost_ret (v:=.tuple #[zA,nA3,.int .i64 a1,.int .i64 (er1:Int)]) (q1G rfl _ _ rfl rfl HN1.out HN2.out rfl rfl rfl rfl) rfl HEND.out
  | ok d=>
   obtain ⟨hou,⟨A5,k5,rfl,hL5⟩,hb5⟩:=h5;have hY5:=HY4.out.below hb5 HY4.out.lt;have hX5:=HX4.out.below hb5 HX4.out.lt;have hb15:=HB4.out.trans (hb5.mono HB4.out.size);have hA5:=HB.out.below hb15 HB.out.lt;have hC5:=HC.out.below hb15 HC.out.lt;obtain ⟨d0,d1,d2,f0,f1,f2⟩:=fst3 hY5;have hgy:=hY5.lt;obtain ⟨w6,hw6⟩:∃ u,w5.setCell ⟨gm,2,none⟩ (.slice A5 d.ou.length k5)=u:=⟨_,rfl⟩;have hu6:Upd (fun b=>b=gm) w5 w6:=V3P;have hY6:Blk w6 gm 39 #[.slice As c.se.length cs,.slice Ap c.pu.length cp,.slice A5 d.ou.length k5]:=by rw [<-hw6];exact hY5.set 2 _
   have hB15:=HB01.out.trans (hb15.mono VP);have hB16:=hB15.trans (hu6.below (B:=w.heap.size) hB15.size fun b hb=>V0x);have hA6:=hA5.upd hu6 V0;have hC6:=hC5.upd hu6 V0;have hX6:=hX5.upd hu6 V0;obtain ⟨c0,c1,c2,x0,x1,x2⟩:=fst3 hC6;obtain ⟨⟨e0,e1,e2,e3,e4,e5⟩,z0,z1,z2,z3,z4,z5⟩:=Blk.c6 hA6;obtain ⟨⟨b0,b1,b2,b3,b4,b5⟩,y0,y1,y2,y3,y4,y5⟩:=Blk.c6 hX6;obtain ⟨q0,q1,q2,u0,u1,u2⟩:=fst3 hY6;have hgl:=hA6.lt;have hgl':=hC6.lt;have hgl2:=hX6.lt;have hgl3:=hY6.lt;obtain ⟨p1,p2,p3⟩:=put9 hgg hA6 hC6 (.int .i64 (k:Int)) (.string ⟨sx.toArray⟩) (.int .u32 (n:Int)) (.int .i64 (a:Int)) (.slice A la cA) (.slice B lb cB) (.slice As c.se.length cs) (.slice Ap c.pu.length cp) (.slice A5 d.ou.length k5);obtain ⟨wp,hwp⟩:∃ wp,Nm.put3 (Pa.put6 w6 g (.int .i64 (k:Int)) (.string ⟨sx.toArray⟩) (.int .u32 (n:Int)) (.int .i64 (a:Int)) (.slice A la cA) (.slice B lb cB)) g' (.slice As c.se.length cs) (.slice Ap c.pu.length cp) (.slice A5 d.ou.length k5)=wp:=⟨_,rfl⟩;rw [hwp] at p1 p2 p3;have hdr:Below wp.heap.size wp wp.drew:=Below.drew (Below.refl _ _);have HN1:=Hi (p1.below hdr p1.lt);have HN2:=Hi (p2.below hdr p2.lt);have p3':=p3.trans (Upd.of_below hdr (fun b=>b=g\/b=g'));have hb25:=HB24.out.trans (hb5.mono HB24.out.size);have hb26:=hb25.trans ((hu6.below (B:=w2.heap.size) hb25.size fun b hb=>by have:=HGN.out;have:=HGM.out;omega));have hT7:=TIn.far HTI.out ((Upd.of_below hb26 (fun b=>b=g\/b=g')).trans p3') (fun b hb=>by have:=HG.out;have:=HG'.out;have:=HS1.out;omega);have hok7:=q5D HER.out HRD.out;have HEND:=Hi (show FpT s w (.returned (.tuple #[nzA (k:Int) (a:Int) sx n A la cA B lb cB,.agg #[.slice As c.se.length cs,.slice Ap c.pu.length cp,.slice A5 d.ou.length k5],.int .i64 0,.int .i64 0])) wp.drew from
    .inl ⟨k,a,sx,n,A,la,cA,B,lb,cB,As,_,cs,Ap,_,cp,A5,k5,x,t,r,c,d,rfl,HER.out,HRD.out,HCK.out,HRES.out,q0K (Nm.own_updV (Nm.own_updV hL5 hu6 fun b hb e=>V4d) p3' fun b hb e=>V4d),hB16.trans (p3'.below (B:=w.heap.size) hB16.size fun b hb=>V0x),⟨q2W hT7,hok7.1,hok7.2.1⟩⟩)
   have HW6:=Hi hw6;have hwp':=hwp;unfold Nm.put3 Pa.put6 at hwp';have HWP:=Hi hwp';have i1:¬ g=gm:=V0;have i2:¬ gm=g:=V0;have i3:¬ g'=gm:=V0;have i4:¬ gm=g':=V0;have i5:¬ g=gn:=V0;have i6:¬ gn=g:=V0;have i7:¬ g'=gn:=V0;have i8:¬ gn=g':=V0;clear hb5 hY5 hX5 hb15 hB15 hB16 hA5 hC5 hw6 hu6 hA6 hC6 hX6 hY6 p1 p2 p3 p3' hwp hwp' hdr HL hou hL5 hb25 hb26 hT7 hok7;go_upto_region 5 with fail
   rw [HW6.out];go_upto_region 7 with fail
   go_region
   all_goals (
    rw [HWP.out];go_wp2_with fail
    exact bodyPost_ret (v:=.tuple #[nzA (k:Int) (a:Int) sx n A la cA B lb cB,.agg #[.slice As c.se.length cs,.slice Ap c.pu.length cp,.slice A5 d.ou.length k5],.int .i64 0,.int .i64 0]) (q1G rfl _ _ rfl rfl HN1.out HN2.out rfl rfl rfl rfl) rfl HEND.out)
 ·have hX:=HB.out.below hb HB.out.lt;have hY:=HC.out.below hb HC.out.lt;obtain ⟨w3,hw3,hb3,hX3,hs3⟩:=q05 w2 #[.int .i64 0,.string ⟨#[]⟩,.int .u32 0,.int .i64 0,.slice none 0 0,.slice none 0 0];obtain ⟨w4,hw4,hb4,-⟩:=alK w3 #[.slice none 0 0,.slice none 0 0,.slice none 0 0] 39;have hb24:=hb3.trans (hb4.mono hb3.size);have hb14:=hb.trans (hb24.mono hb.size);have hX':=hX.below hb24 hX.lt;have hY':=hY.below hb24 hY.lt;obtain ⟨⟨e0,e1,e2,e3,e4,e5⟩,z0,z1,z2,z3,z4,z5⟩:=Blk.c6 hX';obtain ⟨c0,c1,c2,f0,f1,f2⟩:=fst3 hY';have hgl:=hX'.lt;have hgl':=hY'.lt;obtain ⟨p1,p2,p3⟩:=put9 hgg hX' hY' (.int .i64 0) (.string ⟨#[]⟩) (.int .u32 0) (.int .i64 0) (.slice none 0 0) (.slice none 0 0) (.slice none 0 0) (.slice none 0 0) (.slice none 0 0);have HN1:=Hi p1;have HN2:=Hi p2;have hz:((er:Int) != 0)=true:=V4;have HEND:=Hi (show FpT s w (.returned (.tuple #[zA,nA3,.int .i64 a,.int .i64 (er:Int)])) _ from .inr ⟨a,er,rfl,hne,.inl hbad,(HB01.out.trans (hb14.mono VP)).trans (p3.below (by have:=hb14.size;have:=HS1.out;omega) fun b hb=>V0x)⟩);have HW3:=Hi hw3;have HW4:=Hi hw4;clear hX hY hX' hY' hb hb14 hb24 hb3 hb4 hX3 hw3 hw4 hs3 p1 p2 p3 hbad hne;go_upto_region 2 with fail
  rw [HW3.out,HW4.out];go_wp2_with fail
  exact bodyPost_ret (v:=.tuple #[zA,nA3,.int .i64 a,.int .i64 (er:Int)]) (q1G rfl _ _ rfl rfl HN1.out HN2.out rfl rfl rfl rfl) rfl HEND.out
end Ev
namespace Ev
open Go Lx Pa Sh Go.Proofs.YtcgibpdjfgjldaaGreatDoor.Nm Fl
mutual
theorem md_nz:∀ {z:Tz},mdE z->nz z
 | .mk k a s n ps l,h=>by
  unfold mdE at h;unfold nz;exact ⟨h.1,q7h h.2.1⟩
theorem q7h:∀ {l:List Tz},mdEs l->nzs l
 | [],_=>by unfold nzs;trivial
 | x :: l,h=>by
  unfold mdEs at h;unfold nzs;exact ⟨md_nz h.1,q7h h.2⟩
end
theorem q8U{s:Bs}{x:Tr}{t:Tk}{r:List Tk}(he:(wordsL s).er = 0)(h:ExprR (wordsL s).l (.ok [x] (t :: r))):lenz (embz x)/\nz (embz x)/\mdE (embz x):=by
 obtain ⟨f,hf⟩:=(show Rd numV (.lev 0) 0 (wordsL s).l (.ok [x] (t :: r)) from h).at_;have hm:=q4X (num:=numV) f (.lev 0) 0 (wordsL s).l;rw [hf] at hm;have hw:=q3E he;have hm1:=hm.1;have hb:baseN (.lev 0) = 0:=rfl;have hwz:wt x<=80004000:=by
  rw [q0U] at hm1;omega
 have hg:=q4D (num:=numV) (Q:=fun _=>True) q4W f (.lev 0) 0 (wordsL s).l trivial (fun _ _ _=>trivial);rw [hf] at hg;obtain ⟨⟨y,hy,hg⟩,_⟩:=hg;cases hy;exact ⟨q4Y _ Va,md_nz (q68 hg),q68 hg⟩
theorem q8k{l:List Tk}{x x':Tr}{t t':Tk}{r r':List Tk}(h:ExprR l (.ok [x] (t :: r)))(h':ExprR l (.ok [x'] (t' :: r'))):x=x':=by
 have:=Rd.one (show Rd numV (.lev 0) 0 l (.ok [x] (t :: r)) from h) (show Rd numV (.lev 0) 0 l (.ok [x'] (t' :: r')) from h');cases this;rfl
theorem q2S{l:Wd}{x:Tr}{t:Tk}{r:List Tk}{a er:Nat}(he:l.er = 0)(hk:t.k = 0)(h:ExprR l.l (.ok [x] (t :: r)))(h':BadR ExprR l a er):False:=by
 rcases h' with ⟨h',_⟩ | ⟨_,h' | ⟨xs,t',r',h',hk',_⟩⟩
 ·exact h' he
 ·have:=Rd.one (show Rd numV (.lev 0) 0 l.l (.bad a er) from h') (show Rd numV (.lev 0) 0 l.l (.ok [x] (t :: r)) from h);cases this
 ·have:=Rd.one (show Rd numV (.lev 0) 0 l.l (.ok [x] (t :: r)) from h) (show Rd numV (.lev 0) 0 l.l (.ok xs (t' :: r')) from h');cases this;exact hk' hk
theorem q8l{l:Wd}{a er a' er':Nat}(h:BadR ExprR l a er)(h':BadR ExprR l a' er'):er=er':=by
 rcases h with ⟨h1,rfl,rfl⟩ | ⟨h1,h | ⟨xs,t,r,h,hk,rfl,rfl⟩⟩ <;> rcases h' with ⟨h2,rfl,rfl⟩ | ⟨h2,h' | ⟨xs',t',r',h',hk',rfl,rfl⟩⟩
 ·rfl
 ·exact absurd h2 h1
 ·exact absurd h2 h1
 ·exact absurd h1 h2
 ·have:=Rd.one (show Rd numV (.lev 0) 0 l.l (.bad a er) from h) (show Rd numV (.lev 0) 0 l.l (.bad a' er') from h');cases this;rfl
 ·have:=Rd.one (show Rd numV (.lev 0) 0 l.l (.bad a er) from h) (show Rd numV (.lev 0) 0 l.l (.ok xs' (t' :: r')) from h');cases this
 ·exact absurd h1 h2
 ·have:=Rd.one (show Rd numV (.lev 0) 0 l.l (.bad a' er') from h') (show Rd numV (.lev 0) 0 l.l (.ok xs (t :: r)) from h);cases this
 ·rfl
end Ev
namespace Ev
open Go Go.ChangeShapes Go.WideShapes Go.ChangeAt Go.RowKit Lx Args Pa Sh Go.Proofs.YtcgibpdjfgjldaaGreatDoor.Nm WMath Fl
section
def ansE(kn:Kn)(z:Tz):Value:=if canB kn z=true then .tuple #[uV (wdB kn z),.int .i64 0] else .tuple #[.int .u32 0,.int .i64 1]
def ExP(s:Bs)(kn:Kn)(w:World)(e:Ending)(w':World):Prop:=Below w.heap.size w w' /\
 ((∃ x t r,(wordsL s).er = 0/\ExprR (wordsL s).l (.ok [x] (t :: r))/\t.k = 0/\e = .returned (ansE kn (embz x)))\/(∃ a er:Nat,BadR ExprR (wordsL s) a er/\e = .returned (.tuple #[.int .u32 0,.int .i64 (er:Int)])))
theorem q8V{s:Bs}{a er:Nat}(h:BadR ExprR (wordsL s) a er):er≠0:=by
 rcases h with ⟨h,_,rfl⟩ | ⟨h0,h | ⟨_,_,_,_,_,_,rfl⟩⟩
 ·exact h
 ·obtain ⟨f,hf⟩:=(show Rd numV (.lev 0) 0 (wordsL s).l (.bad a er) from h).at_;have:=(tells h0 hf).2;omega
 ·decide
theorem q1J{P:Program}{w:World}{a:Addr}{m:Mode}(fn:Fn)(first cap:Array Value):(store a (.func fn first cap) m).run P w=stored P w a (.func fn first cap) m:=run_store P w a _ m rfl
attribute [local go_sem] q1J
theorem eexpr(s:ByteArray)(names:List Bs)(words:List (BitVec 32))(A:Option Addr)(c:Nat)(A2:Option Addr)(c2:Nat)(hl:names.length<=100)(hn:∀ s∈names,s.length<=maxLen)(hl2:words.length<=9223372036854775807)(w:World)(hA:Lies w A (names.map strV))(hB:Lies w A2 (words.map uV)) :
  Calls Tryz.prog 15 #[.string s,.slice A names.length c,.slice A2 words.length c2] w (ExP s.data.toList (knOf names words) w):=by
 have HP:=Hi (p_expr s w);unfold RdP at HP;have HA:=Hi hA;have HB:=Hi hB;have HN:=Hi hn;unfold ExP;clear hA hB hn;go_enter Tryz.func15,Tryz.ntmps15;go_wp2_with fail
 refine HP.out.mono ?_;rintro e w1 (⟨k,a,sx,n,Ax,la,cA,B,lb,cB,x,t,r,rfl,h1,h2,h3,hT,hb⟩ | ⟨a,er,rfl,hbad,hb⟩)
 ·obtain ⟨z1,z2,z3⟩:=q8U h1 h2;have hTV:TrV w1 (embz x) (k:Int) (a:Int) sx n Ax la cA B lb cB:=⟨q2W hT,z1,z2⟩;obtain ⟨w2,hw2,hb2,hX2,hs2⟩:=q05 w1 (nB (k:Int) (a:Int) sx n Ax la cA B lb cB);obtain ⟨w3,hw3,hb3,-⟩:=alK w2 #[exC,.map none] 75;have hX3:Blk w3 (w1.heap.size+1) 75 #[exC,.map none]:=by
   have:=Blk.new w2 75 #[exC,.map none];rw [hs2,hw3] at this;exact this
  have hb13:=hb2.trans (hb3.mono hb2.size);have HNM:=Hi (named w3 names words A c A2 c2 ((HA.out.below hb).below hb13) HN.out hl ((HB.out.below hb).below hb13) hl2);have HB1:=Hi hb;have HB13:=Hi hb13;have HTV:=Hi hTV;have HW2:=Hi hw2;have HW3:=Hi hw3;have HX2:=Hi (hX2.below hb3 hX2.lt);have HX3:=Hi hX3;have H1:=Hi h1;have H2:=Hi h2;have H3:=Hi h3;have HZ:=Hi z3;have hs2':w2.heap.size=w1.heap.size+1:=hs2;clear hb hT z1 z2 z3 hTV hw2 hb2 hX2 hs2 hw3 hb3 hX3 hb13 h1 h2 h3;go_upto_region 2 with fail
  rw [HW2.out];go_upto_region 5 with fail
  rw [HW3.out];go_wp2_with fail
  refine HNM.out.mono ?_;rintro e w4 ⟨mb,rfl,hM,hb4⟩;have hX4:=HX2.out.below hb4 HX2.out.lt;have hE4:=HX3.out.below hb4 HX3.out.lt;obtain ⟨⟨e0,e1,e2,e3,e4,e5⟩,z0,z1,z2,z3,z4,z5⟩:=Blk.c6 hX4;obtain ⟨y0,y1,x0,x1⟩:=Blk.c2 hE4;have hgl:=hX4.lt;have hyl:=hE4.lt;have hb14:=HB13.out.trans (hb4.mono HB13.out.size);have HCA:=Hi (can (w0:=w1) (SizeOf.sizeOf (embz x)+1) (embz x) (Nat.lt_succ_self _) HZ.out w4 k a sx n Ax la cA B lb cB hb14 hM HTV.out);have HX4:=Hi hX4;have HE4:=Hi hE4;have HM4:=Hi hM;have HB14:=Hi hb14;have HBW:=Hi (HB1.out.trans (hb14.mono HB1.out.size));obtain ⟨q,hq⟩:∃ q,canB (knOf names words) (embz x)=q:=⟨_,rfl⟩;have HQ:=Hi hq;rw [hq] at HCA;unfold TellP at HCA;clear hX4 hE4 hM hb4 hb14 hq;go_wp2_with fail
  refine (show Calls Tryz.prog 36 #[eX,nzA k a sx n Ax la cA B lb cB,.map (some mb)] w4 _ from HCA.out).mono ?_;rintro e w5 ⟨rfl,hb5⟩;cases q with
  | false=>
   have HEND:=Hi (HBW.out.trans (hb5.mono HBW.out.size));clear hb5;go_wp2_with fail
   go_ret2
   exact ⟨HEND.out,.inl ⟨x,t,r,H1.out,H2.out,H3.out,by unfold ansE;rw [HQ.out];rfl⟩⟩
  | true=>
   have hX5:=HX4.out.below hb5 HX4.out.lt;have hE5:=HE4.out.below hb5 HE4.out.lt;have HWD:=Hi (word (w0:=w1) (cst:=exC) (fm:=.map none) (SizeOf.sizeOf (embz x)+1) (embz x) (Nat.lt_succ_self _) HZ.out HQ.out (.inl rfl) w5 k a sx n Ax la cA B lb cB (HB14.out.trans (hb5.mono HB14.out.size)) (HM4.out.upd (X:=fun _=>False) (Upd.of_below hb5 fun _=>False) id) HTV.out);clear e0 e1 e2 e3 e4 e5 z0 z1 z2 z3 z4 z5 hgl y0 y1 x0 x1 hyl;obtain ⟨⟨e0,e1,e2,e3,e4,e5⟩,z0,z1,z2,z3,z4,z5⟩:=Blk.c6 hX5;obtain ⟨y0,y1,x0,x1⟩:=Blk.c2 hE5;have hgl:=hX5.lt;have hyl:=hE5.lt;have HB5:=Hi (HBW.out.trans (hb5.mono HBW.out.size));have HAN:=Hi (show ansE (knOf names words) (embz x) = .tuple #[uV (wdB (knOf names words) (embz x)),.int .i64 0] by unfold ansE;rw [if_pos HQ.out]);unfold WoP at HWD;generalize wdB (knOf names words) (embz x)=x2 at HWD HAN;clear hb5 hX5 hE5;go_wp2_with fail
   refine (show Calls Tryz.prog 37 #[eX,nzA k a sx n Ax la cA B lb cB,.map (some mb)] w5 _ from HWD.out).mono ?_;rintro e w6 ⟨rfl,hb6⟩;have HEND:=Hi (HB5.out.trans (hb6.mono HB5.out.size));clear hb6;go_wp2_with fail
   go_ret2
   exact ⟨HEND.out,.inl ⟨x,t,r,H1.out,H2.out,H3.out,by rw [HAN.out];rfl⟩⟩
 ·have hne:=q8V hbad;have i1:((er:Int) != 0)=true:=V4;obtain ⟨w2,hw2,hb2,hX2,hs2⟩:=q05 w1 #[.int .i64 0,.string ⟨#[]⟩,.int .u32 0,.int .i64 0,.slice none 0 0,.slice none 0 0];have HW2:=Hi hw2;have HB2:=Hi (hb.trans (hb2.mono hb.size));have HBD:=Hi hbad;clear hb hw2 hb2 hX2 hs2 hbad;go_upto_region 2 with fail
  rw [HW2.out];go_wp2_with fail
  go_ret2
  exact ⟨HB2.out,.inr ⟨a,er,HBD.out,rfl⟩⟩
end
section
def txE:Bs:=[115,101,99,114,101,116,32,97,59,32,111,117,116,32,111,32,61,32,97,32,43,32,49,59]
def tkE':List Tk:=[⟨3,[115,101,99,114,101,116],0⟩,⟨1,[97],7⟩,⟨4,[59],8⟩,⟨3,[111,117,116],10⟩,⟨1,[111],14⟩,⟨4,[61],16⟩,⟨1,[97],18⟩,⟨4,[43],20⟩,⟨2,[49],22⟩,⟨4,[59],23⟩,⟨0,[],24⟩]
def xE:Tr:=.mk 3 18 [43] 0 [] [.mk 1 18 [97] 0 [] [],.mk 0 22 [] 1 [] []]
def zsE:List Tr:=[.mk 6 0 [] 0 [[97]] [],.mk 8 10 [111] 0 [] [xE]]
theorem wordsE:wordsL txE=⟨tkE',0,0⟩:=V5
theorem treeE:pF numV 60 (.stmts []) 0 tkE'=some (.ok zsE [⟨0,[],24⟩]):=V5
theorem progE:ProgR tkE' (.ok [.mk 13 0 [] 0 [] zsE] [⟨0,[],24⟩]):=⟨zsE,rfl,⟨60,fun f hf=>q4z numV 60 f hf _ _ _ _ treeE⟩,_,_,rfl,rfl⟩
theorem ckE:∃ c,ckB (embz (.mk 13 0 [] 0 [] zsE)) = .ok c:=⟨_,rfl⟩
theorem flE:∃ d,flB worB XM 61 2000 (embz (.mk 13 0 [] 0 [] zsE)) = .ok d:=⟨_,rfl⟩
abbrev yE:Tz:=.mk 3 18 [43] 0 [] [.mk 1 18 [97] 0 [] [],.mk 0 22 [] 1 [] []]
abbrev knE:Kn:=putN (fun _=>none) [97] 7
theorem mdY:mdE yE:=by
 simp [mdE,mdEs]
theorem canY:canB knE yE=true:=V5
theorem shfY:shf yE=false:=V5
theorem wdY:wdB knE yE = 8:=V5
theorem fpE(w:World):Calls Tryz.prog 13 #[.string ⟨txE.toArray⟩] w fun e w'=>∃ (k a:Int) (sx:Bs) (n:Nat) (A:Option Addr) (la cA:Nat) (B:Option Addr) (lb cB:Nat) (As:Option Addr) (ls cs:Nat) (Ap:Option Addr) (lp cp:Nat) (Ao:Option Addr) (lo' co:Nat),e = .returned (.tuple #[nzA k a sx n A la cA B lb cB,.agg #[.slice As ls cs,.slice Ap lp cp,.slice Ao lo' co],.int .i64 0,.int .i64 0]) /\
  TrV w' (.mk 13 0 [] 0 [] [.mk 6 0 [] 0 [[97]] [],.mk 8 10 [111] 0 [] [yE]]) k a sx n A la cA B lb cB/\Below w.heap.size w w':=by
 refine (fpgmT ⟨txE.toArray⟩ w).mono fun e w' h=>?_
 have hw:wordsL (⟨txE.toArray⟩:ByteArray).data.toList=⟨tkE',0,0⟩:=wordsE;obtain ⟨c0,hc0⟩:=ckE;obtain ⟨d0,hd0⟩:=flE;rcases h with ⟨k,a,sx,n,A,la,cA,B,lb,cB,As,ls,cs,Ap,lp,cp,Ao,co,x,t,r,c,d,rfl,h1,h2,h3,h4,hL,hb,hT⟩ | ⟨a,er,rfl,hne,hbad,hb⟩
 ·rw [hw] at h2;obtain rfl:=q3F h2 progE;exact ⟨k,a,sx,n,A,la,cA,B,lb,cB,As,ls,cs,Ap,lp,cp,Ao,d.ou.length,co,rfl,hT,hb⟩
 ·exfalso;rcases hbad with (⟨a',_,h⟩ | ⟨_,_,x,t,r,h,h'⟩) | ⟨_,x,t,r,c,h,h',h''⟩
  ·exact q4Z (l:=wordsL (⟨txE.toArray⟩:ByteArray).data.toList) (by rw [hw]) (by rw [hw];exact progE) h
  ·rw [hw] at h;obtain rfl:=q3F h progE;rw [hc0] at h';cases h'
  ·rw [hw] at h;obtain rfl:=q3F h progE;rw [hd0] at h'';cases h''
attribute [local go_sem] q1J
def OutE(w:World)(e:Ending)(w':World):Prop:=(∃ A c,e = .returned (.slice A 1 c)/\Lies w' A [uV 8])/\Below w.heap.size w w'
theorem outsE(w:World)(b2:Nat)(hS:Lies w (some ⟨b2,0,none⟩) [uV 7])(k a:Int)(s:Bs)(n:Nat)(A:Option Addr)(la cA:Nat)(B:Option Addr)(lb cB:Nat)(hT:TrV w (.mk 13 0 [] 0 [] [.mk 6 0 [] 0 [[97]] [],.mk 8 10 [111] 0 [] [yE]]) k a s n A la cA B lb cB) :
  Calls Tryz.prog 45 #[nzA k a s n A la cA B lb cB,.slice (some ⟨b2,0,none⟩) 1 1,.slice none 0 0] w (OutE w):=by
 obtain ⟨rfl,rfl,rfl,rfl,rfl,rfl,hP,-,-,-,-,-,-⟩:=hT.parts;obtain ⟨gn,hgn⟩:∃ gn,w.heap.size=gn:=⟨_,rfl⟩;obtain ⟨w1,hw1,hb1,hX1,hs1⟩:=q05 w #[.int .i64 13,.string ⟨#[]⟩,.int .u32 0,.int .i64 0,.slice A 2 cA,.slice B 0 cB];rw [hgn] at hX1 hs1;obtain ⟨w2,hw2⟩:∃ u,w1.alloc (.map #[] 0)=u:=⟨_,rfl⟩;have hs2:w2.heap.size=gn+2:=V0o;obtain ⟨w3,hw3⟩:∃ u,w2.alloc (.cells #[.nilFunc,.map none,.map (some (gn+1)),.slice none 0 0,.slice (some ⟨b2,0,none⟩) 1 1,.slice none 0 0,.slice none 0 0] 147)=u:=⟨_,rfl⟩;have hs3:w3.heap.size=gn+3:=V24;obtain ⟨w4,hw4⟩:∃ u,w3.alloc (.cells #[.pointer (some ⟨gn+2,0,none⟩)] 145)=u:=⟨_,rfl⟩;have hs4:w4.heap.size=gn+4:=by rw [<-hw4];simp [hs3]
 obtain ⟨w5,hw5⟩:∃ u,w4.alloc (.map #[] 0)=u:=⟨_,rfl⟩;have hs5:w5.heap.size=gn+5:=by rw [<-hw5];simp [hs4]
 obtain ⟨w6,hw6⟩:∃ u,w5.setCell ⟨gn+2,1,none⟩ (.map (some (gn+4)))=u:=⟨_,rfl⟩;obtain ⟨w7,hw7⟩:∃ u,w6.setCell ⟨gn+2,0,none⟩ (.func (.func 85) #[] #[.pointer (some ⟨gn+3,0,none⟩)])=u:=⟨_,rfl⟩;have hmk1:(Instr.makeMap 77 none).run Tryz.prog w1 = .ok (.map (some (gn+1))) w2:=V1J;have hmk2:(Instr.makeMap 73 none).run Tryz.prog w4 = .ok (.map (some (gn+4))) w5:=by rw [<-hw5,<-hs4];exact run_makeMap _ _
 have hb2:Below w1.heap.size w1 w2:=V1H;have hb3:Below w2.heap.size w2 w3:=V0M;have hb4:Below w3.heap.size w3 w4:=V49;have hb5:Below w4.heap.size w4 w5:=V1I;have hb25:Below w2.heap.size w2 w5:=hb3.trans ((hb4.trans (hb5.mono hb4.size)).mono hb3.size);have hb15:Below w1.heap.size w1 w5:=hb2.trans (hb25.mono hb2.size);have hu57:Upd (·=gn+2) w5 w7:=by rw [<-hw7,<-hw6];exact ((Upd.refl (·=gn+2) w5).setCell (p:=⟨gn+2,1,none⟩) (fun _=>rfl) _).setCell (p:=⟨gn+2,0,none⟩) (fun _=>rfl) _
 have hR3:Blk w3 (gn+2) 147 #[.nilFunc,.map none,.map (some (gn+1)),.slice none 0 0,.slice (some ⟨b2,0,none⟩) 1 1,.slice none 0 0,.slice none 0 0]:=by
  have:=Blk.new w2 147 #[.nilFunc,.map none,.map (some (gn+1)),.slice none 0 0,.slice (some ⟨b2,0,none⟩) 1 1,.slice none 0 0,.slice none 0 0];rw [hs2,hw3] at this;exact this
 have hR4:=hR3.below hb4 hR3.lt;have hR5:=hR4.below hb5 hR4.lt;have hR6:Blk w6 (gn+2) 147 #[.nilFunc,.map (some (gn+4)),.map (some (gn+1)),.slice none 0 0,.slice (some ⟨b2,0,none⟩) 1 1,.slice none 0 0,.slice none 0 0]:=by rw [<-hw6];exact hR5.set 1 _
 have hR7:Rn w7 (gn+2) (.func (.func 85) #[] #[.pointer (some ⟨gn+3,0,none⟩)]) (.map (some (gn+4))) (gn+1) (.slice none 0 0) (.slice (some ⟨b2,0,none⟩) 1 1) (.slice none 0 0) (.slice none 0 0):=by rw [<-hw7];exact hR6.set 0 _
 have hQ4:Blk w4 (gn+3) 145 #[.pointer (some ⟨gn+2,0,none⟩)]:=by
  have:=Blk.new w3 145 #[.pointer (some ⟨gn+2,0,none⟩)];rw [hs3,hw4] at this;exact this
 have hQ5:=hQ4.below hb5 hQ4.lt;have hu56:Upd (·=gn+2) w5 w6:=by rw [<-hw6];exact (Upd.refl (·=gn+2) w5).setCell (p:=⟨gn+2,1,none⟩) (fun _=>rfl) _
 have hQ6:=hQ5.upd hu56 V0;have hQ7:=hQ5.upd hu57 V0;have hX7:=(hX1.below hb15 hX1.lt).upd hu57 V0;have hM7:MpU w7 (gn+1) 0 (fun _=>none):=by
  have h2:=MpG.made codU w1;rw [hs1,hw2] at h2;exact (h2.upd (X:=fun _=>False) (Upd.of_below hb25 fun _=>False) id).upd hu57 V0
 have hb07:Below w.heap.size w w7:=(hb1.trans (hb15.mono hb1.size)).trans (hu57.below (B:=w.heap.size) (hb1.trans (hb15.mono hb1.size)).size fun b hb=>V0);have HB07:=Hi hb07;have HR7:=Hi hR7;have HQ7:=Hi hQ7;have HX7:=Hi hX7;have HM7:=Hi hM7;have HP:=Hi hP;have HS:=Hi hS;have HW1:=Hi hw1;have HW3:=Hi hw3;have HW4:=Hi hw4;have HW6:=Hi hw6;have HW7:=Hi hw7;have HGN:=Hi hgn;have HS4:=Hi hs4;have HLN:=Hi (learn0 hP (by simp [kOf]) (gn+2) w7 hb07);have r4:=Blk.c7 hR4;have r5:=Blk.c7 hR5;have r6:=Blk.c7 hR6;have p4:=hQ4.cell 0;have p5:=hQ5.cell 0;have p6:=hQ6.cell 0;simp only [List.getElem?_toArray,List.getElem?_cons_zero] at p4 p5 p6;have R5:=Hi r5;have R6:=Hi r6;have P5:=Hi p5;have P6:=Hi p6;have HG5:=Hi hR5.lt;have HG6:=Hi hR6.lt;unfold OutE;obtain ⟨I0,hI0⟩:∃ I:World->Prop,I=fun v=>Below w.heap.size w v/\Rn v (gn+2) (.func (.func 85) #[] #[.pointer (some ⟨gn+3,0,none⟩)]) (.map (some (gn+4))) (gn+1) (.slice none 0 0) (.slice (some ⟨b2,0,none⟩) 1 1) (.slice none 0 0) (.slice none 0 0)/\MpU v (gn+1) 0 (fun _=>none)/\Lies v (some ⟨b2,0,none⟩) [uV 7]/\Blk v (gn+3) 145 #[.pointer (some ⟨gn+2,0,none⟩)]:=⟨_,rfl⟩
 obtain ⟨I1,hI1⟩:∃ I:World->Prop,I=fun v=>Below w.heap.size w v/\(∃ se,Rn v (gn+2) (.func (.func 85) #[] #[.pointer (some ⟨gn+3,0,none⟩)]) (.map (some (gn+4))) (gn+1) (.slice none 0 0) se (.slice none 0 0) (.slice none 0 0))/\MpU v (gn+1) 1 knE/\Blk v (gn+3) 145 #[.pointer (some ⟨gn+2,0,none⟩)]:=⟨_,rfl⟩
 obtain ⟨I2,hI2⟩:∃ I:World->Prop,I=fun v=>Below w.heap.size w v/\(∃ se A' c',Rn v (gn+2) (.func (.func 85) #[] #[.pointer (some ⟨gn+3,0,none⟩)]) (.map (some (gn+4))) (gn+1) (.slice none 0 0) se (.slice none 0 0) (.slice A' 1 c')/\Lies v A' [uV 8])/\Blk v (gn+3) 145 #[.pointer (some ⟨gn+2,0,none⟩)]:=⟨_,rfl⟩
 have i0:∀ {v v':World},I0 v->Below v.heap.size v v'->I0 v':=by
  subst hI0;exact fun {v v'} h hb=>⟨h.1.trans (hb.mono h.1.size),h.2.1.below hb h.2.1.lt,h.2.2.1.upd (X:=fun _=>False) (Upd.of_below hb fun _=>False) id,h.2.2.2.1.below hb,h.2.2.2.2.below hb h.2.2.2.2.lt⟩
 have i1:∀ {v v':World},I1 v->Below v.heap.size v v'->I1 v':=by
  subst hI1;exact fun {v v'} h hb=>⟨h.1.trans (hb.mono h.1.size),h.2.1.imp fun se hs=>hs.below hb hs.lt,h.2.2.1.upd (X:=fun _=>False) (Upd.of_below hb fun _=>False) id,h.2.2.2.below hb h.2.2.2.lt⟩
 have HST:=Hi fun (v:World) (hv:Below w7.heap.size w7 v)=>stmts2 hP (gn+2) I0 I1 I2 i0 i1 (fun v h=>by subst hI0;exact h.1) (fun v h=>by subst hI1;exact h.1)
  (fun v k a s n A la cA B lb cB hI hT=>by
   subst hI0;subst hI1;obtain ⟨rfl,rfl,rfl,rfl,rfl,rfl,-,-,-,hLB,-,-,-⟩:=hT.parts;obtain ⟨h1,h2,h3,h4,h5⟩:=hI;refine (stS v 7 b2 h2 h3 V2 V0 [97] V2 h4 0 [] 0 A 0 cA B cB (hLB.below h1)).mono ?_;rintro e v' ⟨rfl,h6,h7,h8⟩;exact ⟨rfl,h1.trans (h8.below (B:=w.heap.size) h1.size fun b hb=>V0),h6,h7,h5.upd h8 V0⟩)
  (fun v k a s n A la cA B lb cB hI hT=>by
   subst hI1;subst hI2;obtain ⟨rfl,rfl,rfl,rfl,rfl,rfl,hP1,-,-,-,-,-,-⟩:=hT.parts;obtain ⟨h1,⟨se,h2⟩,h3,h5⟩:=hI;refine (stO mdY canY shfY v h1 h2 h3 10 [111] 0 A cA B 0 cB hP1).mono ?_;rintro e v' ⟨rfl,⟨A',c',h6,h7⟩,h8⟩;rw [wdY] at h7;exact ⟨rfl,h1.trans (h8.below (B:=w.heap.size) h1.size fun b hb=>V0),⟨se,A',c',h6,h7⟩,h5.upd h8 V0⟩)
  v (by
   subst hI0;exact ⟨hb07.trans (hv.mono hb07.size),HR7.out.below hv HR7.out.lt,HM7.out.upd (X:=fun _=>False) (Upd.of_below hv fun _=>False) id,(hS.below hb07).below hv,HQ7.out.below hv HQ7.out.lt⟩)
 have HI2:=Hi (fun (v:World) (h:I2 v)=>(show Below w.heap.size w v/\(∃ se A' c',Rn v (gn+2) (.func (.func 85) #[] #[.pointer (some ⟨gn+3,0,none⟩)]) (.map (some (gn+4))) (gn+1) (.slice none 0 0) se (.slice none 0 0) (.slice A' 1 c')/\Lies v A' [uV 8])/\Blk v (gn+3) 145 #[.pointer (some ⟨gn+2,0,none⟩)] by subst hI2;exact h));have hQl4:=hQ4.lt;have hRl4:=hR4.lt;obtain ⟨⟨c40,c41,c42,c43,c44,c45,c46⟩,f40,f41,f42,f43,f44,f45,f46⟩:=r4;clear i0 i1 hI0 hI1 hI2 hb07 hP hS hT hw1 hb1 hX1 hw2 hw3 hw4 hw5 hw6 hw7 hb2 hb3 hb4 hb5 hb25 hb15 hu57 hR3 hR4 hR5 hR6 hR7 hQ4 hQ5 hu56 hQ6 hQ7 hX7 hM7 r5 r6 p5 p6;go_enter Tryz.func45,Tryz.ntmps45;go_upto_region 1 with fail
 (try simp only [HGN.out]);rw [HW1.out];go_upto_region 2 with fail
 rw [HW3.out,HW4.out];(try simp only [Nat.add_assoc,Nat.reduceAdd]);obtain ⟨⟨c50,c51,c52,c53,c54,c55,c56⟩,f50,f51,f52,f53,f54,f55,f56⟩:=R5.out;have p5:=P5.out;have g5:=HG5.out;go_upto_region 3 with fail
 rw [HW6.out];clear c40 c41 c42 c43 c44 c45 c46 f40 f41 f42 f43 f44 f45 f46 c50 c51 c52 c53 c54 c55 c56 f50 f51 f52 f53 f54 f55 f56 p4 p5;obtain ⟨⟨c60,c61,c62,c63,c64,c65,c66⟩,f60,f61,f62,f63,f64,f65,f66⟩:=R6.out;have p6:=P6.out;have g6:=HG6.out;go_upto_region 4 with fail
 rw [HW7.out];clear c60 c61 c62 c63 c64 c65 c66 f60 f61 f62 f63 f64 f65 f66 p6;have p7:=HQ7.out.cell 0;simp only [List.getElem?_toArray,List.getElem?_cons_zero] at p7;obtain ⟨⟨e0,e1,e2,e3,e4,e5⟩,z0,z1,z2,z3,z4,z5⟩:=Blk.c6 HX7.out;have g7:=HX7.out.lt;have g8:=HQ7.out.lt;go_wp2_with fail
 refine (show Calls Tryz.prog 86 #[.pointer (some ⟨gn+2,0,none⟩),.slice A 2 cA] w7 _ from HLN.out).mono ?_;rintro e w8 ⟨rfl,hb8⟩;clear e0 e1 e2 e3 e4 e5 z0 z1 z2 z3 z4 z5 p7 g7 g8;have hX8:=HX7.out.below hb8 HX7.out.lt;have hQ8:=HQ7.out.below hb8 HQ7.out.lt;have p8:=hQ8.cell 0;simp only [List.getElem?_toArray,List.getElem?_cons_zero] at p8;obtain ⟨⟨e0,e1,e2,e3,e4,e5⟩,z0,z1,z2,z3,z4,z5⟩:=Blk.c6 hX8;have g7:=hX8.lt;have g8:=hQ8.lt;have HSS:=Hi (HST.out w8 hb8);clear hb8 hX8 hQ8;go_wp2_with fail
 refine (show Calls Tryz.prog 87 #[.pointer (some ⟨gn+2,0,none⟩),.slice A 2 cA] w8 _ from HSS.out).mono ?_;rintro e w9 ⟨rfl,hI9⟩;obtain ⟨h1,⟨se,A',c',h2,h3⟩,h5⟩:=HI2.out w9 hI9;have p9:=h5.cell 0;simp only [List.getElem?_toArray,List.getElem?_cons_zero] at p9;obtain ⟨⟨r0,r1,r2,r3,r4,r5,r6⟩,q0,q1,q2,q3,q4,q5,q6⟩:=Blk.c7 h2;clear e0 e1 e2 e3 e4 e5 z0 z1 z2 z3 z4 z5 p8 g7 g8 hI9;have g9:=h2.lt;have g8:=h5.lt;have H1:=Hi h1;have H3:=Hi h3;clear h1 h2 h3 h5;go_wp2_with fail
 go_ret;exact ⟨⟨A',c',rfl,H3.out⟩,H1.out⟩
theorem textE(w:World)(b2:Nat)(hS:Lies w (some ⟨b2,0,none⟩) [uV 7]) :
  Calls Tryz.prog 42 #[.string ⟨txE.toArray⟩,.slice (some ⟨b2,0,none⟩) 1 1,.slice none 0 0] w fun e w'=>(∃ A c,e = .returned (.tuple #[.slice A 1 c,.int .i64 0,.int .i64 0])/\Lies w' A [uV 8])/\Below w.heap.size w w':=by
 have HF:=Hi (fpE w);have HS:=Hi hS;clear hS;go_enter Tryz.func42,Tryz.ntmps42;go_wp2_with fail
 refine HF.out.mono ?_;rintro e w1 ⟨k,a,sx,n,A,la,cA,B,lb,cB,As,ls,cs,Ap,lp,cp,Ao,lo',co,rfl,hT,hb1⟩;obtain ⟨w2,hw2,hb2,hX2,hs2⟩:=q05 w1 (nB k a sx n A la cA B lb cB);obtain ⟨w3,hw3,hb3,-⟩:=alK w2 #[.slice As ls cs,.slice Ap lp cp,.slice Ao lo' co] 39;have hb13:=hb2.trans (hb3.mono hb2.size);have hX3:=hX2.below hb3 hX2.lt;have HB3:=Hi (hb1.trans (hb13.mono hb1.size));have HO:=Hi (outsE w3 b2 ((HS.out.below hb1).below hb13) k a sx n A la cA B lb cB (hT.below hb13));have HW2:=Hi hw2;have HW3:=Hi hw3;obtain ⟨⟨e0,e1,e2,e3,e4,e5⟩,z0,z1,z2,z3,z4,z5⟩:=Blk.c6 hX3;have hgl:=hX3.lt;unfold OutE at HO;clear hT hb1 hw2 hb2 hX2 hs2 hw3 hb3 hb13 hX3;go_upto_region 2 with fail
 rw [HW2.out,HW3.out];go_wp2_with fail
 refine (show Calls Tryz.prog 45 #[nzA k a sx n A la cA B lb cB,.slice (some ⟨b2,0,none⟩) 1 1,.slice none 0 0] w3 _ from HO.out).mono ?_;rintro e w4 ⟨⟨A',c',rfl,hL⟩,hb4⟩;have HEND:=Hi (HB3.out.trans (hb4.mono HB3.out.size));have HL:=Hi hL;clear hb4 hL;go_wp2_with fail
 go_ret3
 exact ⟨⟨A',c',rfl,HL.out⟩,HEND.out⟩
theorem lives(w:World):Calls Tryz.prog 18 #[] w fun e w'=>e = .returned (.bool true)/\Below w.heap.size w w':=by
 obtain ⟨w1,hw1,hb1,-⟩:=alK w #[.int .u32 7] 22;have hL1:Lies w1 (some ⟨w.heap.size,0,none⟩) [uV 7]:=by rw [<-hw1];exact q0c _ _ [uV 7]
 have HT:=Hi (textE w1 w.heap.size hL1);have HB1:=Hi hb1;have HW1:=Hi hw1;clear hb1 hL1 hw1;go_enter Tryz.func18,Tryz.ntmps18;go_wp2_with fail
 rw [HW1.out];refine (show Calls Tryz.prog 42 #[.string ⟨#[115,101,99,114,101,116,32,97,59,32,111,117,116,32,111,32,61,32,97,32,43,32,49,59]⟩,.slice (some ⟨w.heap.size,0,none⟩) 1 1,.slice none 0 0] w1 _ from HT.out).mono ?_;rintro e w2 ⟨⟨A,c,rfl,hL⟩,hb2⟩;have f1:([uV 8]:List Value)[0]?=some (.int .u32 8):=rfl;obtain ⟨b,o,rfl,hbl,hc1⟩:=hL.at_ f1;have k1:=hc1 _ _ f1;simp only [Nat.add_zero] at k1;have HEND:=Hi (HB1.out.trans (hb2.mono HB1.out.size));clear hL hb2 hc1 f1;go_wp2_with fail
 go_ret;exact ⟨rfl,HEND.out⟩
end
end Ev
end Go.Proofs.YtcgibpdjfgjldaaGreatDoor
