/- DERIVED. FlLaw, NmPr, FlCh, FlPg, EvPg. By an AI agent. -/
import Derived.Test.YtdhoemlomojfaaaGreatDoorW41
import Derived.Test.YtdhoemlomojfaaaGreatDoorW17
import Derived.Test.YtdhoemlomojfaaaGreatDoorW01
import Derived.Test.YtdhoemlomojfaaaGreatDoorW27
set_option maxRecDepth 100000
set_option maxHeartbeats 4000000
set_option linter.unusedVariables false
set_option linter.unusedSimpArgs false
namespace Go.Proofs.YtdhoemlomojfaaaGreatDoor.Fl
open Go Go.ChangeShapes Go.WideShapes Go.ChangeAt Go.RowKit Lx Args Pa Sh Go.Proofs.YtdhoemlomojfaaaGreatDoor.Nm

end Go.Proofs.YtdhoemlomojfaaaGreatDoor.Fl
namespace Go.Proofs.YtdhoemlomojfaaaGreatDoor.Nm
open Go Go.ChangeShapes Go.WideShapes Go.ChangeAt Go.RowKit Lx Args Pa Sh
abbrev zA:Value:=.agg #[.int .i64 0,.string ⟨#[]⟩,.int .u32 0,.int .i64 0,.slice none 0 0,.slice none 0 0]
abbrev nA3:Value:=.agg #[.slice none 0 0,.slice none 0 0,.slice none 0 0]
def BadN(s:Bs)(a:Int)(er:Nat):Prop:=(∃ a':Nat,a=(a':Int)∧BadR ProgR (wordsL s) a' er)∨((wordsL s).er = 0∧er = 120∧∃ x t r,ProgR (wordsL s).l (.ok [x] (t :: r))∧ckB (embz x) = .bad a)
def PgmP(s:ByteArray)(w:World)(e:Ending)(w':World):Prop:=
 (∃ (k a:Nat) (sx:Bs) (n:Nat) (A:Option Addr) (la cA:Nat) (B:Option Addr) (lb cB:Nat) (x:Tr) (t:Tk) (r:List Tk) (vs vp vo:Value) (c:St),e = .returned (.tuple #[nzA (k:Int) (a:Int) sx n A la cA B lb cB,.agg #[vs,vp,vo],.int .i64 0,.int .i64 0])∧(wordsL s.data.toList).er = 0∧ProgR (wordsL s.data.toList).l (.ok [x] (t :: r))∧ckB (embz x) = .ok c ∧
  TIn (fun b=>w.heap.size≤b) w' x (ndC k a sx n A la cA B lb cB)∧NaP w.heap.size w' vs vp vo c∧Below w.heap.size w w') ∨
 (∃ (a:Int) (er:Nat),e = .returned (.tuple #[zA,nA3,.int .i64 a,.int .i64 (er:Int)])∧er≠0∧BadN s.data.toList a er∧Below w.heap.size w w')
theorem res_cctt{fn:Func}{p q u v:Tmp}(h:fn.results = #[.cell p 62,.cell q 65,.tmp u,.tmp v])(tmps:Array Value)(W:World){g g':Nat}{cs ds:Array Value}(hp:tmps.getD p undef = .pointer (some ⟨g,0,none⟩))(hq:tmps.getD q undef = .pointer (some ⟨g',0,none⟩))(hg:Blk W g 62 cs)(hg':Blk W g' 65 ds)(hs:some 6=some cs.size)(hs':some 3=some ds.size){x y:Value}(hx:tmps.getD u undef=x)(hy:tmps.getD v undef=y) :
  (results fn tmps).run Tryz.prog W = .ok (.tuple #[.agg cs,.agg ds,x,y]) W:=by
 subst hx;subst hy;have hp':tmps[p]?.getD undef = .pointer (some ⟨g,0,none⟩):=by simpa using hp
 have hq':tmps[q]?.getD undef = .pointer (some ⟨g',0,none⟩):=by simpa using hq
 simp [results,h,hp',hq',asAddr,run_loadVar_row W g 62 62 cs (0,0) _ hg Tryz.underlying62 rfl (szNd.trans hs),run_loadVar_row W g' 65 65 ds (0,0) _ hg' Tryz.underlying65 rfl (szNm.trans hs')]
abbrev put3(w:World)(g:Nat)(a b c:Value):World:=((w.setCell ⟨g,0,none⟩ a).setCell ⟨g,1,none⟩ b).setCell ⟨g,2,none⟩ c
theorem put3_upd{X:Nat→Prop}{w0 w:World}{g:Nat}(h:Upd X w0 w)(hg:g < w0.heap.size→X g)(a b c:Value):Upd X w0 (put3 w g a b c):=
 ((h.setCell (p:=⟨g,0,none⟩) hg a).setCell (p:=⟨g,1,none⟩) hg b).setCell (p:=⟨g,2,none⟩) hg c
theorem put9{w:World}{g g':Nat}(hne:g≠g'){a b c d e f a1 b1 c1:Value}(h:Blk w g 62 #[a,b,c,d,e,f])(h':Blk w g' 65 #[a1,b1,c1])(a2 b2 c2 d2 e2 f2 a3 b3 c3:Value) :
  Blk (put3 (put6 w g a2 b2 c2 d2 e2 f2) g' a3 b3 c3) g 62 #[a2,b2,c2,d2,e2,f2]∧Blk (put3 (put6 w g a2 b2 c2 d2 e2 f2) g' a3 b3 c3) g' 65 #[a3,b3,c3]∧Upd (fun b=>b=g∨b=g') w (put3 (put6 w g a2 b2 c2 d2 e2 f2) g' a3 b3 c3):=by
 have h1:=Blk.put6 h a2 b2 c2 d2 e2 f2;have h2:=put6_far h' hne.symm a2 b2 c2 d2 e2 f2;refine ⟨h1.upd (X:=fun b=>b=g') (put3_upd (X:=fun b=>b=g') (Upd.refl _ _) (fun _=>rfl) _ _ _) hne,Blk.put3 h2 _ _ _,put3_upd (put6_upd (Upd.refl _ _) (fun _=>.inl rfl) _ _ _ _ _ _) (fun _=>.inr rfl) _ _ _⟩
theorem pgm(s:ByteArray)(w:World):Calls Tryz.prog 39 #[.string s] w (PgmP s w):=by
 obtain ⟨w0,hw0,hb0,hB,hs0⟩:=a_box w #[.int .i64 0,.string ⟨#[]⟩,.int .u32 0,.int .i64 0,.slice none 0 0,.slice none 0 0];obtain ⟨w1,hw1⟩:∃ w1,w0.alloc (.cells #[.slice none 0 0,.slice none 0 0,.slice none 0 0] 65)=w1:=⟨_,rfl⟩;have hb1:Below w0.heap.size w0 w1:=by rw [←hw1];exact (Below.refl _ _).alloc (Nat.le_refl _) _
 have hs1:w1.heap.size=w.heap.size+2:=by rw [←hw1];simp;omega
 have hC:Blk w1 (w.heap.size+1) 65 #[.slice none 0 0,.slice none 0 0,.slice none 0 0]:=by rw [←hw1,←hs0];exact Blk.new _ _ _
 have HB01:=Hi (hb0.trans (hb1.mono hb0.size));obtain ⟨g,hg⟩:∃ g,w.heap.size=g:=⟨_,rfl⟩;obtain ⟨g',hg'⟩:∃ g',g+1=g':=⟨_,rfl⟩;rw [hg] at hB hC;rw [hg'] at hC;have hgg:¬ g=g':=by omega
 have hgg':¬ g'=g:=by omega
 have HG:=Hi hg;have HG':=Hi hg';have HB:=Hi (hB.below hb1 hB.lt);have HC:=Hi hC;have HW0:=Hi hw0;have HW1:=Hi hw1;have HP:=Hi (p_program s w1);have HS1:=Hi hs1;have HS0:=Hi hs0;clear hw0 hb0 hB hw1 hb1 hC hs1 hs0 hg hg';go_enter Tryz.func39,Tryz.ntmps39;go_upto_region 1 with fail
 rw [HW0.out];rw [HW1.out];simp only [HG.out,HG'.out];go_wp2_with fail
 refine HP.out.mono ?_;rintro e w2 (⟨k,a,sx,n,A,la,cA,B,lb,cB,x,t,r,rfl,h1,h2,h3,hT,hb⟩ | ⟨a,er,rfl,hbad,hb⟩)
 ·obtain ⟨w3,hw3,hb3,hX3,hs3⟩:=a_box w2 (nB (k:Int) (a:Int) sx n A la cA B lb cB);have hb23:=hb.trans (hb3.mono hb.size);have hT3:=TIz.below hb3 (tIz_of hT);obtain ⟨hz1,hz2,hz3⟩:=prog_z h1 h2;have HCK:=Hi (check (embz x) hz1 hz2 w3 (k:Int) (a:Int) sx n A la cA B lb cB hT3);have HT:=Hi (hT.upd (Upd.of_below hb3 fun _=>False) fun _ _ h=>h);have HX3:=Hi hX3;have HW3:=Hi hw3;have HB3:=Hi hb23;have HS3:=Hi hs3;have HER:=Hi h1;have HRD:=Hi h2;have hsz:=Hi hb.size;obtain ⟨⟨e0,e1,e2,e3,e4,e5⟩,z0,z1,z2,z3,z4,z5⟩:=Blk.c6 hX3;obtain ⟨res,hres⟩:∃ res,ckB (embz x)=res:=⟨_,rfl⟩;have HRES:=Hi hres;rw [hres] at HCK;clear hw3 hb3 hX3 hs3 hb hb23 hT hT3 hz1 hz2 hz3 h1 h2 h3 hres HP;go_wp2_with fail
  rw [HW3.out];refine (show Calls Tryz.prog 47 #[nzA (k:Int) (a:Int) sx n A la cA B lb cB] w3 _ from HCK.out).mono ?_;intro e w4 h4;clear e0 e1 e2 e3 e4 e5 z0 z1 z2 z3 z4 z5 HCK;cases res with
  | bad a1=>
   have h4':e = .returned (.tuple #[nA3,.int .i64 a1,.int .i64 120])∧Below w3.heap.size w3 w4:=h4;clear h4;obtain ⟨rfl,hb4⟩:=h4';obtain ⟨w5,hw5⟩:∃ w5,w4.alloc (.cells #[.slice none 0 0,.slice none 0 0,.slice none 0 0] 65)=w5:=⟨_,rfl⟩;have hb5:Below w4.heap.size w4 w5:=by rw [←hw5];exact (Below.refl _ _).alloc (Nat.le_refl _) _
   have HW5:=Hi hw5;have hb14:=HB3.out.trans ((hb4.trans (hb5.mono hb4.size)).mono HB3.out.size);have hX:=HB.out.below hb14 HB.out.lt;have hY:=HC.out.below hb14 HC.out.lt;obtain ⟨⟨e0,e1,e2,e3,e4,e5⟩,z0,z1,z2,z3,z4,z5⟩:=Blk.c6 hX;obtain ⟨c0,c1,c2,f0,f1,f2⟩:=Blk.c3 hY;have hb14s:=hb14.size;obtain ⟨p1,p2,p3⟩:=put9 hgg hX hY (.int .i64 0) (.string ⟨#[]⟩) (.int .u32 0) (.int .i64 0) (.slice none 0 0) (.slice none 0 0) (.slice none 0 0) (.slice none 0 0) (.slice none 0 0);have HN1:=Hi p1;have HN2:=Hi p2;have HEND:=Hi (show PgmP s w (.returned (.tuple #[zA,nA3,.int .i64 a1,.int .i64 ((120:Nat):Int)])) _ from .inr ⟨a1,120,rfl,by decide,.inr ⟨HER.out,rfl,x,t,r,HRD.out,HRES.out⟩,(HB01.out.trans (hb14.mono (by have:=HS1.out;omega))).trans (p3.below (by have:=hb14.size;have:=HG.out;have:=HG'.out;have:=HS1.out;omega) fun b hb=>by rcases hb with h | h <;> (have:=HG.out;have:=HG'.out;omega))⟩);clear hX hY hb4 hb14 hb14s p1 p2 p3 hw5 hb5;go_upto_region 5 with fail
   rw [HW5.out];go_wp2_with fail
   exact bodyPost_ret (v:=.tuple #[zA,nA3,.int .i64 a1,.int .i64 120]) (res_cctt rfl _ _ rfl rfl HN1.out HN2.out rfl rfl rfl rfl) rfl HEND.out
  | ok c=>
   obtain ⟨vs,vp,vo,rfl,⟨os,op,oo,hbd⟩,hb4⟩:=h4;obtain ⟨As,cs,rfl⟩:=own_sl os;obtain ⟨Ap,cp,rfl⟩:=own_sl op;obtain ⟨Ao,co,rfl⟩:=own_sl oo;obtain ⟨w5,hw5⟩:∃ w5,w4.alloc (.cells #[.slice As c.se.length cs,.slice Ap c.pu.length cp,.slice Ao c.ou.length co] 65)=w5:=⟨_,rfl⟩;have hb5:Below w4.heap.size w4 w5:=by rw [←hw5];exact (Below.refl _ _).alloc (Nat.le_refl _) _
   have hY5:Blk w5 w4.heap.size 65 #[.slice As c.se.length cs,.slice Ap c.pu.length cp,.slice Ao c.ou.length co]:=by rw [←hw5];exact Blk.new _ _ _
   have hb46:=hb5;have hb36:=hb4.trans (hb46.mono hb4.size);have hb16:=HB3.out.trans (hb36.mono HB3.out.size);have hu46:Upd (fun _=>False) w4 w5:=Upd.of_below hb46 _;have hX:=HB.out.below hb16 HB.out.lt;have hY:=HC.out.below hb16 HC.out.lt;have hN6:=HX3.out.below hb36 HX3.out.lt;have hT6:=HT.out.upd (Upd.of_below hb36 fun _=>False) fun _ _ h=>h
   have hsz4:=hb4.size;have hsz3:=HS3.out;have hs12:=HS1.out;have hgo:=HG.out;have hgo':=HG'.out;have hs46:=hb46.size;have hb35:=hb4.trans (hb5.mono hb4.size);have hb15:=HB3.out.trans (hb35.mono HB3.out.size);obtain ⟨⟨e0,e1,e2,e3,e4,e5⟩,z0,z1,z2,z3,z4,z5⟩:=Blk.c6 (HB.out.below hb15 HB.out.lt);obtain ⟨c0,c1,c2,f0,f1,f2⟩:=Blk.c3 (HC.out.below hb15 HC.out.lt);obtain ⟨⟨g0,g1,g2,g3,g4,g5⟩,y0,y1,y2,y3,y4,y5⟩:=Blk.c6 (HX3.out.below hb35 HX3.out.lt);obtain ⟨d0,d1,d2,i0,i1,i2⟩:=Blk.c3 hY5;obtain ⟨p1,p2,p3⟩:=put9 hgg hX hY (.int .i64 (k:Int)) (.string ⟨sx.toArray⟩) (.int .u32 (n:Int)) (.int .i64 (a:Int)) (.slice A la cA) (.slice B lb cB) (.slice As c.se.length cs) (.slice Ap c.pu.length cp) (.slice Ao c.ou.length co);obtain ⟨wp,hwp⟩:∃ wp,put3 (put6 w5 g (.int .i64 (k:Int)) (.string ⟨sx.toArray⟩) (.int .u32 (n:Int)) (.int .i64 (a:Int)) (.slice A la cA) (.slice B lb cB)) g' (.slice As c.se.length cs) (.slice Ap c.pu.length cp) (.slice Ao c.ou.length co)=wp:=⟨_,rfl⟩;rw [hwp] at p1 p2 p3;have hdr:Below wp.heap.size wp wp.drew:=Below.drew (Below.refl _ _);have HN1:=Hi (p1.below hdr p1.lt);have HN2:=Hi (p2.below hdr p2.lt);replace p3:=p3.trans (Upd.of_below hdr _);have hpo:∀ {e:TypeId} {sz m:Nat} {v:Value} {xs:List Value},w4.ownsRow w3.heap.size e sz v m xs→wp.drew.ownsRow w.heap.size e sz v m xs:=fun h=>
    own_lo (own_updV (own_updV h hu46 fun _ _ h=>h) p3 fun b hb hq=>by have:=hsz.out;have:=(own_atV h b hb).1;omega) (by have:=hsz.out;omega)
   have HEND:=Hi (show PgmP s w (.returned (.tuple #[nzA (k:Int) (a:Int) sx n A la cA B lb cB,.agg #[.slice As c.se.length cs,.slice Ap c.pu.length cp,.slice Ao c.ou.length co],.int .i64 0,.int .i64 0])) wp.drew from
    .inl ⟨k,a,sx,n,A,la,cA,B,lb,cB,x,t,r,_,_,_,c,rfl,HER.out,HRD.out,HRES.out,(hT6.upd p3 fun b hb h=>by have:=hsz.out;omega).mono fun b hb _=>by have:=hsz.out;omega,⟨hpo os,hpo op,hpo oo,hbd⟩,(HB01.out.trans (hb16.mono (by have:=HS1.out;omega))).trans (p3.below (by have:=hb16.size;have:=HS1.out;omega) fun b hb=>by rcases hb with h | h <;> (have:=HG.out;have:=HG'.out;omega))⟩)
   have HW5:=Hi hw5;have hwp':=hwp;unfold put3 put6 at hwp';have HWP:=Hi hwp';have q1:¬ g=w4.heap.size:=by have:=hsz.out;omega
   have q2:¬ w4.heap.size=g:=by have:=hsz.out;omega
   clear hb35 hb15 hX hY hN6 hT6 hb4 hb5 hb46 hb36 hb16 hu46 hpo hgo hgo' hs12 hsz3 hsz4 hs46 p1 p2 p3 os op oo hbd hw5 hwp hwp' hY5 hdr;go_upto_region 7 with fail
   rw [HW5.out]
   go_region
   all_goals (
    rw [HWP.out];go_wp2_with fail
    exact bodyPost_ret (v:=.tuple #[nzA (k:Int) (a:Int) sx n A la cA B lb cB,.agg #[.slice As c.se.length cs,.slice Ap c.pu.length cp,.slice Ao c.ou.length co],.int .i64 0,.int .i64 0]) (res_cctt rfl _ _ rfl rfl HN1.out HN2.out rfl rfl rfl rfl) rfl HEND.out)
 ·have hX:=HB.out.below hb HB.out.lt;have hY:=HC.out.below hb HC.out.lt;have hs12:=HS1.out;have hgo:=HG.out;have hgo':=HG'.out;have hbs:=hb.size;have her:=prog_er hbad;obtain ⟨w3,hw3,hb3,hX3,hs3⟩:=a_box w2 #[.int .i64 0,.string ⟨#[]⟩,.int .u32 0,.int .i64 0,.slice none 0 0,.slice none 0 0];have hX':=hX.below hb3 hX.lt;have hY':=hY.below hb3 hY.lt;have hb13:=hb.trans (hb3.mono hb.size);have hbs3:=hb13.size;obtain ⟨⟨e0,e1,e2,e3,e4,e5⟩,z0,z1,z2,z3,z4,z5⟩:=Blk.c6 hX';obtain ⟨c0,c1,c2,f0,f1,f2⟩:=Blk.c3 hY';obtain ⟨p1,p2,p3⟩:=put9 hgg hX' hY' (.int .i64 0) (.string ⟨#[]⟩) (.int .u32 0) (.int .i64 0) (.slice none 0 0) (.slice none 0 0) (.slice none 0 0) (.slice none 0 0) (.slice none 0 0);have HN1:=Hi p1;have HN2:=Hi p2;have hz:((er:Int) != 0)=true:=by simp;omega
  have HEND:=Hi (show PgmP s w (.returned (.tuple #[zA,nA3,.int .i64 (a:Int),.int .i64 (er:Int)])) _ from .inr ⟨(a:Int),er,rfl,her,.inl ⟨a,rfl,hbad⟩,(HB01.out.trans (hb13.mono (by have:=HS1.out;omega))).trans (p3.below (by have:=HS1.out;omega) fun b hb=>by rcases hb with h | h <;> (have:=HG.out;have:=HG'.out;omega))⟩);have HW3:=Hi hw3;clear hX hY hX' hY' hb hb13 hb3 hX3 hw3 p1 p2 p3 hbad hgo hgo' hs12 hbs hbs3;go_upto_region 2 with fail
  rw [HW3.out];go_wp2_with fail
  exact bodyPost_ret (v:=.tuple #[zA,nA3,.int .i64 (a:Int),.int .i64 (er:Int)]) (res_cctt rfl _ _ rfl rfl HN1.out HN2.out rfl rfl rfl rfl) rfl HEND.out
end Go.Proofs.YtdhoemlomojfaaaGreatDoor.Nm
namespace Go.Proofs.YtdhoemlomojfaaaGreatDoor.Fl
open Go Go.ChangeShapes Go.WideShapes Go.ChangeAt Go.RowKit Lx Args Pa Sh Go.Proofs.YtdhoemlomojfaaaGreatDoor.Nm
def okG(z:Tz):Prop:=lenz z∧nz z∧nbz z≤134217728
mutual
theorem nz_gE{Q:Bs→Prop}:∀ (x:Tr),gE Q x→nz (embz x)
 | .mk k a s n ps l,h=>by
  unfold gE at h;unfold embz nz;exact ⟨h.2.2.1,nz_gEs l h.2.1⟩
theorem nz_gEs{Q:Bs→Prop}:∀ (l:List Tr),gEs Q l→nzs (embs l)
 | [],_=>by unfold embs nzs;trivial
 | x :: l,h=>by
  unfold gEs at h;unfold embs nzs;exact ⟨nz_gE x h.1,nz_gEs l h.2⟩
end
mutual
theorem nz_gS{Q:Bs→Prop}:∀ (x:Tr),gS Q x→nz (embz x)
 | .mk k a s n ps l,h=>by
  unfold gS at h;unfold embz nz;refine ⟨by rw [h.1];decide,?_⟩;rcases h.2.2.2 with ⟨_,_,h⟩ | ⟨_,_,h⟩
  ·exact nz_gA _ l h
  ·exact nz_gA _ l h
theorem nz_gA{Q:Bs→Prop}:∀ (i:Nat) (l:List Tr),gA Q i l→nzs (embs l)
 | _,[],_=>by unfold embs nzs;trivial
 | 0,x :: l,h=>by
  unfold gA at h;unfold embs nzs;exact ⟨nz_gS x h.1,nz_gA 0 l h.2⟩
 | i+1,x :: l,h=>by
  unfold gA at h;unfold embs nzs;exact ⟨nz_gE x h.1,nz_gA i l h.2⟩
end
theorem nz_gT{Q:Bs→Prop}{x:Tr}(h:gT Q x):nz (embz x):=by
 obtain ⟨k,a,s,n,ps,l⟩:=x;unfold gT at h;rcases h with h | ⟨hn,h⟩
 ·exact nz_gS _ h
 ·unfold embz nz;refine ⟨by rw [hn];decide,?_⟩;rcases h with ⟨_,_,rfl,_⟩ | ⟨_,_,_,x,rfl,hx⟩ | ⟨_,_,_,_,x,rfl,hx⟩
  ·unfold embs nzs;trivial
  ·unfold embs embs nzs nzs;exact ⟨nz_gE x hx,trivial⟩
  ·unfold embs embs nzs nzs;exact ⟨nz_gE x hx,trivial⟩
theorem nzs_gT{Q:Bs→Prop}:∀ {l:List Tr},(∀ y∈l,gT Q y)→nzs (embs l)
 | [],_=>by unfold embs nzs;trivial
 | x :: l,h=>by
  unfold embs nzs;exact ⟨nz_gT (h x (by simp)),nzs_gT fun y hy=>h y (by simp [hy])⟩
theorem prog_okG{s:Bs}{x:Tr}{t:Tk}{r:List Tk}(he:(wordsL s).er = 0)(h:ProgR (wordsL s).l (.ok [x] (t :: r))):okG (embz x):=by
 obtain ⟨h1,_,_⟩:=prog_z he h;obtain ⟨zs,e1,h2,_⟩:=h;simp only [List.cons.injEq,and_true] at e1;subst e1;obtain ⟨f,hf⟩:=h2.at_;have hm:=pF_much (num:=numV) f (.stmts []) 0 (wordsL s).l;rw [hf] at hm;have hw:=tw_words he;have hm1:=hm.1;have hwz:wts zs≤80004000:=by
  have:baseN (.stmts []) = 0:=rfl;omega
 have hg:=pF_made (num:=numV) (Q:=fun _=>True) numV_lt f (.stmts []) 0 (wordsL s).l trivial (fun _ _ _=>trivial);rw [hf] at hg;obtain ⟨ys,e,hy⟩:=hg.1;have hys:zs=ys:=by simpa using e
 subst hys;refine ⟨h1,?_,?_⟩
 ·unfold embz nz;exact ⟨by decide,nzs_gT hy⟩
 ·have:=nbz_wt (.mk 13 (hdA (wordsL s).l) [] 0 [] zs);rw [wt_mk] at this;simp only [pw_nil,List.length_nil] at this;omega
def FpB(s:Bs)(a:Int)(er:Nat):Prop:=BadN s a er∨((wordsL s).er = 0∧∃ x t r c,ProgR (wordsL s).l (.ok [x] (t :: r))∧ckB (embz x) = .ok c∧flB worB XM 61 2000 (embz x) = .bad a er)
end Go.Proofs.YtdhoemlomojfaaaGreatDoor.Fl
namespace Go.Proofs.YtdhoemlomojfaaaGreatDoor.Ev
open Go Go.ChangeShapes Go.WideShapes Go.ChangeAt Go.RowKit Lx Args Pa Sh Go.Proofs.YtdhoemlomojfaaaGreatDoor.Nm Fl
def FpT(s:ByteArray)(w:World)(e:Ending)(w':World):Prop:=
 (∃ (k a:Int) (sx:Bs) (n:Nat) (A:Option Addr) (la cA:Nat) (B:Option Addr) (lb cB:Nat) (As:Option Addr) (ls cs:Nat) (Ap:Option Addr) (lp cp:Nat) (Ao:Option Addr) (co:Nat) (x:Tr) (t:Tk) (r:List Tk) (c:St) (d:Sf),e = .returned (.tuple #[nzA k a sx n A la cA B lb cB,.agg #[.slice As ls cs,.slice Ap lp cp,.slice Ao d.ou.length co],.int .i64 0,.int .i64 0])∧(wordsL s.data.toList).er = 0∧ProgR (wordsL s.data.toList).l (.ok [x] (t :: r))∧ckB (embz x) = .ok c∧flB worB XM 61 2000 (embz x) = .ok d ∧
  Lies w' Ao (d.ou.flatMap lbC)∧Below w.heap.size w w'∧TrV w' (embz x) k a sx n A la cA B lb cB) ∨
 (∃ (a:Int) (er:Nat),e = .returned (.tuple #[zA,nA3,.int .i64 a,.int .i64 (er:Int)])∧er≠0∧FpB s.data.toList a er∧Below w.heap.size w w')
theorem fpgmT(s:ByteArray)(w:World):Calls Tryz.prog 33 #[.string s] w (FpT s w):=by
 obtain ⟨w0,hw0,hb0,hB,hs0⟩:=a_box w #[.int .i64 0,.string ⟨#[]⟩,.int .u32 0,.int .i64 0,.slice none 0 0,.slice none 0 0];obtain ⟨w1,hw1⟩:∃ w1,w0.alloc (.cells #[.slice none 0 0,.slice none 0 0,.slice none 0 0] 65)=w1:=⟨_,rfl⟩;have hb1:Below w0.heap.size w0 w1:=by rw [←hw1];exact (Below.refl _ _).alloc (Nat.le_refl _) _
 have hs1:w1.heap.size=w.heap.size+2:=by rw [←hw1];simp;omega
 have hC:Blk w1 (w.heap.size+1) 65 #[.slice none 0 0,.slice none 0 0,.slice none 0 0]:=by rw [←hw1,←hs0];exact Blk.new _ _ _
 have HB01:=Hi (hb0.trans (hb1.mono hb0.size));obtain ⟨g,hg⟩:∃ g,w.heap.size=g:=⟨_,rfl⟩;obtain ⟨g',hg'⟩:∃ g',g+1=g':=⟨_,rfl⟩;rw [hg] at hB hC;rw [hg'] at hC;have hgg:¬ g=g':=by omega
 have hgg':¬ g'=g:=by omega
 have HG:=Hi hg;have HG':=Hi hg';have HB:=Hi (hB.below hb1 hB.lt);have HC:=Hi hC;have HW0:=Hi hw0;have HW1:=Hi hw1;have HP:=Hi (pgm s w1);have HS1:=Hi hs1;have HS0:=Hi hs0;clear hw0 hb0 hB hw1 hb1 hC hs1 hs0 hg hg';go_enter Tryz.func33,Tryz.ntmps33;go_upto_region 1 with fail
 rw [HW0.out];rw [HW1.out];simp only [HG.out,HG'.out];go_wp2_with fail
 refine HP.out.mono ?_;rintro e w2 (⟨k,a,sx,n,A,la,cA,B,lb,cB,x,t,r,vs,vp,vo,c,rfl,h1,h2,h3,hT,hN,hb⟩ | ⟨a,er,rfl,hne,hbad,hb⟩)
 ·obtain ⟨As,cs,rfl⟩:=own_sl hN.1;obtain ⟨Ap,cp,rfl⟩:=own_sl hN.2.1;obtain ⟨Ao,co,rfl⟩:=own_sl hN.2.2.1;obtain ⟨w3,hw3,hb3,hX3,hs3⟩:=a_box w2 (nB (k:Int) (a:Int) sx n A la cA B lb cB);obtain ⟨w4,hw4⟩:∃ u,w3.alloc (.cells #[.slice As c.se.length cs,.slice Ap c.pu.length cp,.slice Ao c.ou.length co] 65)=u:=⟨_,rfl⟩;have hb4:Below w3.heap.size w3 w4:=by rw [←hw4];exact (Below.refl _ _).alloc (Nat.le_refl _) _
  have hY4:Blk w4 w3.heap.size 65 #[.slice As c.se.length cs,.slice Ap c.pu.length cp,.slice Ao c.ou.length co]:=by rw [←hw4];exact Blk.new _ _ _
  have hb24:=hb3.trans (hb4.mono hb3.size);have hb14:=hb.trans (hb24.mono hb.size);have hX4:=hX3.below hb4 hX3.lt;have hT4:=TIz.below hb24 (tIz_of hT);have hok:=prog_okG h1 h2;have HL:=Hi (labels_ (embz x) w4 (k:Int) (a:Int) sx n A la cA B lb cB ⟨hT4,hok.1,hok.2.1⟩ hok.2.2 (ck_ar h3));obtain ⟨gn,hgn⟩:∃ gn,w2.heap.size=gn:=⟨_,rfl⟩;obtain ⟨gm,hgm⟩:∃ gm,gn+1=gm:=⟨_,rfl⟩;rw [hgn] at hX4 hX3;rw [hs3,hgn,hgm] at hY4;have hgnm:gn < gm:=by omega
  have HGN:=Hi hgn;have HGM:=Hi hgm;have hg1:g' < gn:=by have:=HC.out.lt;have:=hb.size;omega
  have HX4:=Hi hX4;have HY4:=Hi hY4;have HW3:=Hi hw3;have HW4:=Hi hw4;have HB4:=Hi hb14;have HER:=Hi h1;have HRD:=Hi h2;have HCK:=Hi h3;obtain ⟨⟨e0,e1,e2,e3,e4,e5⟩,z0,z1,z2,z3,z4,z5⟩:=Blk.c6 hX4;have hgx:=hX4.lt;obtain ⟨res,hres⟩:∃ res,flB worB XM 61 2000 (embz x)=res:=⟨_,rfl⟩;have HRES:=Hi hres;rw [hres] at HL;have hgg1:g < gn:=by have:=HG'.out;omega
  have HTI:=Hi hT;have HB24:=Hi hb24;clear hN hw3 hb3 hX3 hs3 hw4 hb4 hY4 hb24 hb14 hX4 hT4 hok hT hb h1 h2 h3 hres HP hgn hgm;go_upto_region 2 with fail
  rw [HW3.out,HW4.out];simp only [HGN.out,HGM.out];go_wp2_with fail
  refine (show Calls Tryz.prog 40 #[nzA (k:Int) (a:Int) sx n A la cA B lb cB] w4 _ from HL.out).mono ?_;intro e w5 h5;clear e0 e1 e2 e3 e4 e5 z0 z1 z2 z3 z4 z5 hgx;cases res with
  | bad a1 er1=>
   obtain ⟨her,rfl,hb5⟩:=h5;have hY5:=HY4.out.below hb5 HY4.out.lt;have hX5:=HX4.out.below hb5 HX4.out.lt;have hb15:=HB4.out.trans (hb5.mono HB4.out.size);have hA5:=HB.out.below hb15 HB.out.lt;have hC5:=HC.out.below hb15 HC.out.lt;obtain ⟨d0,d1,d2,f0,f1,f2⟩:=fst3 hY5;have hgy:=hY5.lt;obtain ⟨w6,hw6⟩:∃ u,w5.setCell ⟨gm,2,none⟩ (.slice none 0 0)=u:=⟨_,rfl⟩;have hu6:Upd (fun b=>b=gm) w5 w6:=by rw [←hw6];exact (Upd.refl (fun b=>b=gm) w5).setCell (p:=⟨gm,2,none⟩) (fun _=>rfl) _
   have hB15:=HB01.out.trans (hb15.mono (by have:=HS1.out;omega));have hB16:=hB15.trans (hu6.below (B:=w.heap.size) hB15.size fun b hb=>by have:=HG.out;have:=HG'.out;omega);have hA6:=hA5.upd hu6 (by omega);have hC6:=hC5.upd hu6 (by omega);obtain ⟨⟨e0,e1,e2,e3,e4,e5⟩,z0,z1,z2,z3,z4,z5⟩:=Blk.c6 hA6;obtain ⟨c0,c1,c2,x0,x1,x2⟩:=fst3 hC6;have hgl:=hA6.lt;have hgl':=hC6.lt;obtain ⟨p1,p2,p3⟩:=put9 hgg hA6 hC6 (.int .i64 0) (.string ⟨#[]⟩) (.int .u32 0) (.int .i64 0) (.slice none 0 0) (.slice none 0 0) (.slice none 0 0) (.slice none 0 0) (.slice none 0 0);have HN1:=Hi p1;have HN2:=Hi p2;have hz:((er1:Int) != 0)=true:=by simp;omega
   have HW6:=Hi hw6;have HEND:=Hi (show FpT s w (.returned (.tuple #[zA,nA3,.int .i64 a1,.int .i64 (er1:Int)])) _ from .inr ⟨a1,er1,rfl,her,.inr ⟨HER.out,x,t,r,c,HRD.out,HCK.out,HRES.out⟩,hB16.trans (p3.below (B:=w.heap.size) hB16.size fun b hb=>by have:=HG.out;have:=HG'.out;omega)⟩);clear hb5 hY5 hX5 hb15 hB15 hB16 hA5 hC5 hw6 hu6 hA6 hC6 p1 p2 p3 HL her;go_upto_region 5 with fail
   rw [HW6.out];go_wp2_with fail
   exact bodyPost_ret (v:=.tuple #[zA,nA3,.int .i64 a1,.int .i64 (er1:Int)]) (res_cctt rfl _ _ rfl rfl HN1.out HN2.out rfl rfl rfl rfl) rfl HEND.out
  | ok d=>
   obtain ⟨hou,⟨A5,k5,rfl,hL5⟩,hb5⟩:=h5;have hY5:=HY4.out.below hb5 HY4.out.lt;have hX5:=HX4.out.below hb5 HX4.out.lt;have hb15:=HB4.out.trans (hb5.mono HB4.out.size);have hA5:=HB.out.below hb15 HB.out.lt;have hC5:=HC.out.below hb15 HC.out.lt;obtain ⟨d0,d1,d2,f0,f1,f2⟩:=fst3 hY5;have hgy:=hY5.lt;obtain ⟨w6,hw6⟩:∃ u,w5.setCell ⟨gm,2,none⟩ (.slice A5 d.ou.length k5)=u:=⟨_,rfl⟩;have hu6:Upd (fun b=>b=gm) w5 w6:=by rw [←hw6];exact (Upd.refl (fun b=>b=gm) w5).setCell (p:=⟨gm,2,none⟩) (fun _=>rfl) _
   have hY6:Blk w6 gm 65 #[.slice As c.se.length cs,.slice Ap c.pu.length cp,.slice A5 d.ou.length k5]:=by rw [←hw6];exact hY5.set 2 _
   have hB15:=HB01.out.trans (hb15.mono (by have:=HS1.out;omega));have hB16:=hB15.trans (hu6.below (B:=w.heap.size) hB15.size fun b hb=>by have:=HG.out;have:=HG'.out;omega);have hA6:=hA5.upd hu6 (by omega);have hC6:=hC5.upd hu6 (by omega);have hX6:=hX5.upd hu6 (by omega);obtain ⟨c0,c1,c2,x0,x1,x2⟩:=fst3 hC6;obtain ⟨⟨e0,e1,e2,e3,e4,e5⟩,z0,z1,z2,z3,z4,z5⟩:=Blk.c6 hA6;obtain ⟨⟨b0,b1,b2,b3,b4,b5⟩,y0,y1,y2,y3,y4,y5⟩:=Blk.c6 hX6;obtain ⟨q0,q1,q2,u0,u1,u2⟩:=fst3 hY6;have hgl:=hA6.lt;have hgl':=hC6.lt;have hgl2:=hX6.lt;have hgl3:=hY6.lt;obtain ⟨p1,p2,p3⟩:=put9 hgg hA6 hC6 (.int .i64 (k:Int)) (.string ⟨sx.toArray⟩) (.int .u32 (n:Int)) (.int .i64 (a:Int)) (.slice A la cA) (.slice B lb cB) (.slice As c.se.length cs) (.slice Ap c.pu.length cp) (.slice A5 d.ou.length k5);obtain ⟨wp,hwp⟩:∃ wp,Nm.put3 (Pa.put6 w6 g (.int .i64 (k:Int)) (.string ⟨sx.toArray⟩) (.int .u32 (n:Int)) (.int .i64 (a:Int)) (.slice A la cA) (.slice B lb cB)) g' (.slice As c.se.length cs) (.slice Ap c.pu.length cp) (.slice A5 d.ou.length k5)=wp:=⟨_,rfl⟩;rw [hwp] at p1 p2 p3;have hdr:Below wp.heap.size wp wp.drew:=Below.drew (Below.refl _ _);have HN1:=Hi (p1.below hdr p1.lt);have HN2:=Hi (p2.below hdr p2.lt);have p3':=p3.trans (Upd.of_below hdr (fun b=>b=g∨b=g'));have hb25:=HB24.out.trans (hb5.mono HB24.out.size);have hb26:=hb25.trans ((hu6.below (B:=w2.heap.size) hb25.size fun b hb=>by have:=HGN.out;have:=HGM.out;omega));have hT7:=TIn.far HTI.out ((Upd.of_below hb26 (fun b=>b=g∨b=g')).trans p3') (fun b hb=>by have:=HG.out;have:=HG'.out;have:=HS1.out;omega);have hok7:=prog_okG HER.out HRD.out;have HEND:=Hi (show FpT s w (.returned (.tuple #[nzA (k:Int) (a:Int) sx n A la cA B lb cB,.agg #[.slice As c.se.length cs,.slice Ap c.pu.length cp,.slice A5 d.ou.length k5],.int .i64 0,.int .i64 0])) wp.drew from
    .inl ⟨k,a,sx,n,A,la,cA,B,lb,cB,As,_,cs,Ap,_,cp,A5,k5,x,t,r,c,d,rfl,HER.out,HRD.out,HCK.out,HRES.out,lies_own (Nm.own_updV (Nm.own_updV hL5 hu6 fun b hb e=>by have:=(Nm.own_atV hL5 b hb).1;have:=HY4.out.lt;omega) p3' fun b hb e=>by have:=(Nm.own_atV hL5 b hb).1;have:=HY4.out.lt;omega),hB16.trans (p3'.below (B:=w.heap.size) hB16.size fun b hb=>by have:=HG.out;have:=HG'.out;omega),⟨tIz_of hT7,hok7.1,hok7.2.1⟩⟩)
   have HW6:=Hi hw6;have hwp':=hwp;unfold Nm.put3 Pa.put6 at hwp';have HWP:=Hi hwp';have i1:¬ g=gm:=by omega
   have i2:¬ gm=g:=by omega
   have i3:¬ g'=gm:=by omega
   have i4:¬ gm=g':=by omega
   have i5:¬ g=gn:=by omega
   have i6:¬ gn=g:=by omega
   have i7:¬ g'=gn:=by omega
   have i8:¬ gn=g':=by omega
   clear hb5 hY5 hX5 hb15 hB15 hB16 hA5 hC5 hw6 hu6 hA6 hC6 hX6 hY6 p1 p2 p3 p3' hwp hwp' hdr HL hou hL5 hb25 hb26 hT7 hok7;go_upto_region 5 with fail
   rw [HW6.out];go_upto_region 7 with fail
   go_region
   all_goals (
    rw [HWP.out];go_wp2_with fail
    exact bodyPost_ret (v:=.tuple #[nzA (k:Int) (a:Int) sx n A la cA B lb cB,.agg #[.slice As c.se.length cs,.slice Ap c.pu.length cp,.slice A5 d.ou.length k5],.int .i64 0,.int .i64 0]) (res_cctt rfl _ _ rfl rfl HN1.out HN2.out rfl rfl rfl rfl) rfl HEND.out)
 ·have hX:=HB.out.below hb HB.out.lt;have hY:=HC.out.below hb HC.out.lt;obtain ⟨w3,hw3,hb3,hX3,hs3⟩:=a_box w2 #[.int .i64 0,.string ⟨#[]⟩,.int .u32 0,.int .i64 0,.slice none 0 0,.slice none 0 0];obtain ⟨w4,hw4⟩:∃ u,w3.alloc (.cells #[.slice none 0 0,.slice none 0 0,.slice none 0 0] 65)=u:=⟨_,rfl⟩;have hb4:Below w3.heap.size w3 w4:=by rw [←hw4];exact (Below.refl _ _).alloc (Nat.le_refl _) _
  have hb24:=hb3.trans (hb4.mono hb3.size);have hb14:=hb.trans (hb24.mono hb.size);have hX':=hX.below hb24 hX.lt;have hY':=hY.below hb24 hY.lt;obtain ⟨⟨e0,e1,e2,e3,e4,e5⟩,z0,z1,z2,z3,z4,z5⟩:=Blk.c6 hX';obtain ⟨c0,c1,c2,f0,f1,f2⟩:=fst3 hY';have hgl:=hX'.lt;have hgl':=hY'.lt;obtain ⟨p1,p2,p3⟩:=put9 hgg hX' hY' (.int .i64 0) (.string ⟨#[]⟩) (.int .u32 0) (.int .i64 0) (.slice none 0 0) (.slice none 0 0) (.slice none 0 0) (.slice none 0 0) (.slice none 0 0);have HN1:=Hi p1;have HN2:=Hi p2;have hz:((er:Int) != 0)=true:=by simp;omega
  have HEND:=Hi (show FpT s w (.returned (.tuple #[zA,nA3,.int .i64 a,.int .i64 (er:Int)])) _ from .inr ⟨a,er,rfl,hne,.inl hbad,(HB01.out.trans (hb14.mono (by have:=HS1.out;omega))).trans (p3.below (by have:=hb14.size;have:=HS1.out;omega) fun b hb=>by have:=HG.out;have:=HG'.out;omega)⟩);have HW3:=Hi hw3;have HW4:=Hi hw4;clear hX hY hX' hY' hb hb14 hb24 hb3 hb4 hX3 hw3 hw4 hs3 p1 p2 p3 hbad hne;go_upto_region 2 with fail
  rw [HW3.out,HW4.out];go_wp2_with fail
  exact bodyPost_ret (v:=.tuple #[zA,nA3,.int .i64 a,.int .i64 (er:Int)]) (res_cctt rfl _ _ rfl rfl HN1.out HN2.out rfl rfl rfl rfl) rfl HEND.out
end Go.Proofs.YtdhoemlomojfaaaGreatDoor.Ev
