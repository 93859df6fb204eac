/- DERIVED. EvBd, EvEx. By an AI agent. -/
import Derived.Test.YtcgibpdjfgjldaaGreatDoorU24
import Derived.Test.YtcgibpdjfgjldaaGreatDoorU17
set_option maxRecDepth 100000
set_option maxHeartbeats 4000000
set_option linter.unusedVariables false
set_option linter.unusedSimpArgs false
namespace Go.Proofs.YtcgibpdjfgjldaaGreatDoor
namespace Ev
open Go Lx Pa Sh Go.Proofs.YtcgibpdjfgjldaaGreatDoor.Nm Fl
mutual
theorem md_nz:∀ {z:Tz},mdE z->nz z
 | .mk k a s n ps l,h=>by
  unfold mdE at h;unfold nz;exact ⟨h.1,q78 h.2.1⟩
theorem q78:∀ {l:List Tz},mdEs l->nzs l
 | [],_=>by unfold nzs;trivial
 | x :: l,h=>by
  unfold mdEs at h;unfold nzs;exact ⟨md_nz h.1,q78 h.2⟩
end
theorem q8X{s:Bs}{x:Tr}{t:Tk}{r:List Tk}(he:(wordsL s).er = 0)(h:ExprR (wordsL s).l (.ok [x] (t :: r))):lenz (embz x)/\nz (embz x)/\mdE (embz x):=by
 obtain ⟨f,hf⟩:=(show Rd numV (.lev 0) 0 (wordsL s).l (.ok [x] (t :: r)) from h).at_;have hm:=q4X (num:=numV) f (.lev 0) 0 (wordsL s).l;rw [hf] at hm;have hw:=q3F he;have hm1:=hm.1;have hb:baseN (.lev 0) = 0:=rfl;have hwz:wt x<=80004000:=by
  rw [q0W] at hm1;omega
 have hg:=q4H (num:=numV) (Q:=fun _=>True) q4W f (.lev 0) 0 (wordsL s).l trivial (fun _ _ _=>trivial);rw [hf] at hg;obtain ⟨⟨y,hy,hg⟩,_⟩:=hg;cases hy;exact ⟨q4Y _ V8,md_nz (q6d hg),q6d hg⟩
theorem q8d{l:List Tk}{x x':Tr}{t t':Tk}{r r':List Tk}(h:ExprR l (.ok [x] (t :: r)))(h':ExprR l (.ok [x'] (t' :: r'))):x=x':=by
 have:=Rd.one (show Rd numV (.lev 0) 0 l (.ok [x] (t :: r)) from h) (show Rd numV (.lev 0) 0 l (.ok [x'] (t' :: r')) from h');cases this;rfl
theorem q2V{l:Wd}{x:Tr}{t:Tk}{r:List Tk}{a er:Nat}(he:l.er = 0)(hk:t.k = 0)(h:ExprR l.l (.ok [x] (t :: r)))(h':BadR ExprR l a er):False:=by
 rcases h' with ⟨h',_⟩ | ⟨_,h' | ⟨xs,t',r',h',hk',_⟩⟩
 ·exact h' he
 ·have:=Rd.one (show Rd numV (.lev 0) 0 l.l (.bad a er) from h') (show Rd numV (.lev 0) 0 l.l (.ok [x] (t :: r)) from h);cases this
 ·have:=Rd.one (show Rd numV (.lev 0) 0 l.l (.ok [x] (t :: r)) from h) (show Rd numV (.lev 0) 0 l.l (.ok xs (t' :: r')) from h');cases this;exact hk' hk
theorem q8e{l:Wd}{a er a' er':Nat}(h:BadR ExprR l a er)(h':BadR ExprR l a' er'):er=er':=by
 rcases h with ⟨h1,rfl,rfl⟩ | ⟨h1,h | ⟨xs,t,r,h,hk,rfl,rfl⟩⟩ <;> rcases h' with ⟨h2,rfl,rfl⟩ | ⟨h2,h' | ⟨xs',t',r',h',hk',rfl,rfl⟩⟩
 ·rfl
 ·exact absurd h2 h1
 ·exact absurd h2 h1
 ·exact absurd h1 h2
 ·have:=Rd.one (show Rd numV (.lev 0) 0 l.l (.bad a er) from h) (show Rd numV (.lev 0) 0 l.l (.bad a' er') from h');cases this;rfl
 ·have:=Rd.one (show Rd numV (.lev 0) 0 l.l (.bad a er) from h) (show Rd numV (.lev 0) 0 l.l (.ok xs' (t' :: r')) from h');cases this
 ·exact absurd h1 h2
 ·have:=Rd.one (show Rd numV (.lev 0) 0 l.l (.bad a' er') from h') (show Rd numV (.lev 0) 0 l.l (.ok xs (t :: r)) from h);cases this
 ·rfl
end Ev
namespace Ev
open Go Go.ChangeShapes Go.WideShapes Go.ChangeAt Go.RowKit Lx Args Pa Sh Go.Proofs.YtcgibpdjfgjldaaGreatDoor.Nm WMath Fl
section
def ansE(kn:Kn)(z:Tz):Value:=if canB kn z=true then .tuple #[uV (wdB kn z),.int .i64 0] else .tuple #[.int .u32 0,.int .i64 1]
def ExP(s:Bs)(kn:Kn)(w:World)(e:Ending)(w':World):Prop:=Below w.heap.size w w' /\
 ((∃ x t r,(wordsL s).er = 0/\ExprR (wordsL s).l (.ok [x] (t :: r))/\t.k = 0/\e = .returned (ansE kn (embz x)))\/(∃ a er:Nat,BadR ExprR (wordsL s) a er/\e = .returned (.tuple #[.int .u32 0,.int .i64 (er:Int)])))
theorem bad_ne{s:Bs}{a er:Nat}(h:BadR ExprR (wordsL s) a er):er≠0:=by
 rcases h with ⟨h,_,rfl⟩ | ⟨h0,h | ⟨_,_,_,_,_,_,rfl⟩⟩
 ·exact h
 ·obtain ⟨f,hf⟩:=(show Rd numV (.lev 0) 0 (wordsL s).l (.bad a er) from h).at_;have:=(tells h0 hf).2;omega
 ·decide
theorem q1L{P:Program}{w:World}{a:Addr}{m:Mode}(fn:Fn)(first cap:Array Value):(store a (.func fn first cap) m).run P w=stored P w a (.func fn first cap) m:=run_store P w a _ m rfl
attribute [local go_sem] q1L
theorem eexpr(s:ByteArray)(names:List Bs)(words:List (BitVec 32))(A:Option Addr)(c:Nat)(A2:Option Addr)(c2:Nat)(hl:names.length<=100)(hn:∀ s∈names,s.length<=maxLen)(hl2:words.length<=9223372036854775807)(w:World)(hA:Lies w A (names.map strV))(hB:Lies w A2 (words.map uV)) :
  Calls Tryz.prog 15 #[.string s,.slice A names.length c,.slice A2 words.length c2] w (ExP s.data.toList (knOf names words) w):=by
 have HP:=Hi (p_expr s w);unfold RdP at HP;have HA:=Hi hA;have HB:=Hi hB;have HN:=Hi hn;unfold ExP;clear hA hB hn;go_enter Tryz.func15,Tryz.ntmps15;go_wp2_with fail
 refine HP.out.mono ?_;rintro e w1 (⟨k,a,sx,n,Ax,la,cA,B,lb,cB,x,t,r,rfl,h1,h2,h3,hT,hb⟩ | ⟨a,er,rfl,hbad,hb⟩)
 ·obtain ⟨z1,z2,z3⟩:=q8X h1 h2;have hTV:TrV w1 (embz x) (k:Int) (a:Int) sx n Ax la cA B lb cB:=⟨q30 hT,z1,z2⟩;obtain ⟨w2,hw2,hb2,hX2,hs2⟩:=q05 w1 (nB (k:Int) (a:Int) sx n Ax la cA B lb cB);obtain ⟨w3,hw3,hb3,-⟩:=alK w2 #[exC,.map none] 75;have hX3:Blk w3 (w1.heap.size+1) 75 #[exC,.map none]:=by
   have:=Blk.new w2 75 #[exC,.map none];rw [hs2,hw3] at this;exact this
  have hb13:=hb2.trans (hb3.mono hb2.size);have HNM:=Hi (named w3 names words A c A2 c2 ((HA.out.below hb).below hb13) HN.out hl ((HB.out.below hb).below hb13) hl2);have HB1:=Hi hb;have HB13:=Hi hb13;have HTV:=Hi hTV;have HW2:=Hi hw2;have HW3:=Hi hw3;have HX2:=Hi (hX2.below hb3 hX2.lt);have HX3:=Hi hX3;have H1:=Hi h1;have H2:=Hi h2;have H3:=Hi h3;have HZ:=Hi z3;have hs2':w2.heap.size=w1.heap.size+1:=hs2;clear hb hT z1 z2 z3 hTV hw2 hb2 hX2 hs2 hw3 hb3 hX3 hb13 h1 h2 h3;go_upto_region 2 with fail
  rw [HW2.out];go_upto_region 5 with fail
  rw [HW3.out];go_wp2_with fail
  refine HNM.out.mono ?_;rintro e w4 ⟨mb,rfl,hM,hb4⟩;have hX4:=HX2.out.below hb4 HX2.out.lt;have hE4:=HX3.out.below hb4 HX3.out.lt;obtain ⟨⟨e0,e1,e2,e3,e4,e5⟩,z0,z1,z2,z3,z4,z5⟩:=Blk.c6 hX4;obtain ⟨y0,y1,x0,x1⟩:=Blk.c2 hE4;have hgl:=hX4.lt;have hyl:=hE4.lt;have hb14:=HB13.out.trans (hb4.mono HB13.out.size);have HCA:=Hi (can (w0:=w1) (SizeOf.sizeOf (embz x)+1) (embz x) (Nat.lt_succ_self _) HZ.out w4 k a sx n Ax la cA B lb cB hb14 hM HTV.out);have HX4:=Hi hX4;have HE4:=Hi hE4;have HM4:=Hi hM;have HB14:=Hi hb14;have HBW:=Hi (HB1.out.trans (hb14.mono HB1.out.size));obtain ⟨q,hq⟩:∃ q,canB (knOf names words) (embz x)=q:=⟨_,rfl⟩;have HQ:=Hi hq;rw [hq] at HCA;unfold TellP at HCA;clear hX4 hE4 hM hb4 hb14 hq;go_wp2_with fail
  refine (show Calls Tryz.prog 36 #[eX,nzA k a sx n Ax la cA B lb cB,.map (some mb)] w4 _ from HCA.out).mono ?_;rintro e w5 ⟨rfl,hb5⟩;cases q with
  | false=>
   have HEND:=Hi (HBW.out.trans (hb5.mono HBW.out.size));clear hb5;go_wp2_with fail
   go_ret2
   exact ⟨HEND.out,.inl ⟨x,t,r,H1.out,H2.out,H3.out,by unfold ansE;rw [HQ.out];rfl⟩⟩
  | true=>
   have hX5:=HX4.out.below hb5 HX4.out.lt;have hE5:=HE4.out.below hb5 HE4.out.lt;have HWD:=Hi (word (w0:=w1) (cst:=exC) (fm:=.map none) (SizeOf.sizeOf (embz x)+1) (embz x) (Nat.lt_succ_self _) HZ.out HQ.out (.inl rfl) w5 k a sx n Ax la cA B lb cB (HB14.out.trans (hb5.mono HB14.out.size)) (HM4.out.upd (X:=fun _=>False) (Upd.of_below hb5 fun _=>False) id) HTV.out);clear e0 e1 e2 e3 e4 e5 z0 z1 z2 z3 z4 z5 hgl y0 y1 x0 x1 hyl;obtain ⟨⟨e0,e1,e2,e3,e4,e5⟩,z0,z1,z2,z3,z4,z5⟩:=Blk.c6 hX5;obtain ⟨y0,y1,x0,x1⟩:=Blk.c2 hE5;have hgl:=hX5.lt;have hyl:=hE5.lt;have HB5:=Hi (HBW.out.trans (hb5.mono HBW.out.size));have HAN:=Hi (show ansE (knOf names words) (embz x) = .tuple #[uV (wdB (knOf names words) (embz x)),.int .i64 0] by unfold ansE;rw [if_pos HQ.out]);unfold WoP at HWD;generalize wdB (knOf names words) (embz x)=x2 at HWD HAN;clear hb5 hX5 hE5;go_wp2_with fail
   refine (show Calls Tryz.prog 37 #[eX,nzA k a sx n Ax la cA B lb cB,.map (some mb)] w5 _ from HWD.out).mono ?_;rintro e w6 ⟨rfl,hb6⟩;have HEND:=Hi (HB5.out.trans (hb6.mono HB5.out.size));clear hb6;go_wp2_with fail
   go_ret2
   exact ⟨HEND.out,.inl ⟨x,t,r,H1.out,H2.out,H3.out,by rw [HAN.out];rfl⟩⟩
 ·exact V2B
end
end Ev
end Go.Proofs.YtcgibpdjfgjldaaGreatDoor
