/- DERIVED. RqEe, RqSc, RqLe, RqGo. By an AI agent. -/
import Derived.Test.YtcgibpdjfgjldaaGreatDoorR35
set_option maxRecDepth 100000
set_option maxHeartbeats 4000000
set_option linter.unusedVariables false
set_option linter.unusedSimpArgs false
open Go Go.ChangeShapes Go.WideShapes Go.ChangeAt Go.RowKit
namespace Go.Proofs.YtcgibpdjfgjldaaGreatDoor
namespace Pq
open Lx Args Pa
section
attribute [local go_sem] bH bI bJ
theorem lev5{M:Nat}(H:UnC M):LvQ 5 M:=by
 intro w bp d l hl hp hg;obtain ⟨w0,hw0,hb0,hB⟩:=q04 w;have hlt:=hp.lt;have HE:=Hi (H w0 bp d l hl (hp.below hb0) hg);have HB0:=Hi hb0;have HB:=Hi hB;have HW:=Hi hw0;have hbl:=hB.lt;clear hb0 hB hp hw0 hg;show Calls Tryz.prog 88 #[.pointer (some ⟨bp,0,none⟩),.int .i64 5,.int .i64 (d:Int)] w _;go_enter Tryz.func88,Tryz.ntmps88;go_wp2_with fail
 rw [HW.out];refine HE.out.mono ?_;rintro e w1 ⟨k,a,s,n,A,la,cA,B,lb,cB,rfl,hU,hO⟩;have h1:=HB.out.upd hU V0;obtain ⟨⟨e0,e1,e2,e3,e4,e5⟩,z0,z1,z2,z3,z4,z5⟩:=Aa.c6 h1;have H1:=Hi h1;have Aj:=Hi ((q01 HB0.out).trans hU);have HO:=Hi hO;clear h1 hU hO;go_wp2_with fail
 refine bodyPost_ret (aH rfl rfl (Aa.az H1.out _ _ _ _ _ _) rfl) rfl ?_;exact q76 hlt HB.out.lt Aj.out HO.out
theorem un_of{n:Nat}(HU:UnC n)(HE:ExQ n):UnC (n+1):=by
 intro w bp d l hl hp hg;obtain ⟨t,r,rfl⟩:=hg.cons;simp only [List.length_cons] at hl;by_cases hd:60 < d
 ·by_cases hk:t.k = 2
  ·exact q89 w bp d t r hd hp hg hk
  ·exact q8a w bp d t r hd hp hg hk
 have hd':d<=60:=V0;by_cases h126:ak [126] t=true
 ·exact un_not HU w bp d t r V0 hd' hp hg h126
 have h126':ak [126] t=false:=by simpa using h126
 by_cases h45:ak [45] t=true
 ·exact un_neg HU w bp d t r V0 hd' hp hg h126' h45
 have h45':ak [45] t=false:=by simpa using h45
 by_cases hk:t.k = 2
 ·rcases q6h (if Lib.hasPrefix t.s [48,120]=true then 16 else 10) (Lib.trimPrefix t.s [48,120]) with h | h | h
  ·exact un_num0 w bp d t r hd' hp hg hk h
  ·exact un_num2 w bp d t r hd' hp hg hk h
  ·exact un_num4 w bp d t r hd' hp hg hk h
 by_cases h40:ak [40] t=true
 ·exact un_par HE w bp d t r V0 hd' hp hg h40
 have h40':ak [40] t=false:=by simpa using h40
 by_cases hk1:t.k = 1
 ·obtain ⟨u,q,rfl⟩:=q6j hg.et V0;simp only [List.length_cons] at hl;by_cases hu:ak [40] u=true
  ·exact un_call HE w bp d t u q V0 hd' hp hg hk1 hu
  ·exact un_name w bp d t u q hd' hp hg hk1 V0B
 ·exact q5F w bp d t r hd' hp h126' h45' hk h40' hk1
theorem ex_of{n:Nat}(H:LvQ 0 n):ExQ n:=by
 intro w bp d l hl hp hg;obtain ⟨t,r,rfl⟩:=hg.cons;by_cases hd:60 < d
 ·exact ex_deep w bp d t r hp hd
 ·exact ex_at w bp d t r hp V0 fun w0 h0=>H w0 bp d (t :: r) hl h0 hg
theorem levs_of{n:Nat}(H:UnC n):LvQ 0 n:=by
 have h5:=lev5 H;have h4:LvQ 4 n:=fun w bp d l=>lev4 h5 w bp d l
 have h3:LvQ 3 n:=fun w bp d l=>lev3 h4 w bp d l
 have h2:LvQ 2 n:=fun w bp d l=>lev2 h3 w bp d l
 have h1:LvQ 1 n:=fun w bp d l=>lev1 h2 w bp d l
 exact fun w bp d l=>lev0 h1 w bp d l
theorem ex_all:∀ n,UnC n/\ExQ n:=by
 intro n
 induction n with
 | zero=>
  refine ⟨fun w bp d l hl hp hg=>?_,fun w bp d l hl hp hg=>?_⟩
  all_goals
   obtain ⟨t,r,rfl⟩:=hg.cons;simp at hl
 | succ n ih=>
  have h:=un_of ih.1 ih.2;exact ⟨h,ex_of (levs_of h)⟩
theorem ex(w:World)(bp d:Nat)(l:List Tk)(hp:QS w bp l 0 0)(hg:Gt l) :
  Calls Tryz.prog 46 #[.pointer (some ⟨bp,0,none⟩),.int .i64 (d:Int)] w (AU w bp l (Rd ag (.aI 0) d l)):=
 (ex_all l.length).2 w bp d l (Nat.le_refl _) hp hg
end
def whyQ(w:World)(bp:Nat):Int:=match w.cell? ⟨bp,3,none⟩ with
 | some (.int _ z)=>z
 | _=>0
theorem QS.why{w:World}{bp ba wy:Nat}{l:List Tk}(h:QS w bp l ba wy):whyQ w bp=(wy:Int):=by
 obtain ⟨b,o,c,pre,_,h1,_⟩:=h;unfold whyQ;rw [show w.cell? ⟨bp,3,none⟩=some (.int .i64 (wy:Int)) from h1.cell 3]
def SC(w:World)(bp n:Nat)(G:Nat->List Tk->OO)(E:Out->Prop):Prop:=
 (∃ l,QS w bp l 0 0/\Gt l/\l.length<=n/\∀ o,Ev (fun f=>G f l) o->E o)\/(∃ ba er t r,er≠0/\E (.bad ba er)/\QS w bp (t :: r) ba er)
theorem SC.lt{w:World}{bp n:Nat}{G:Nat->List Tk->OO}{E:Out->Prop}(h:SC w bp n G E):bp < w.heap.size:=by
 rcases h with ⟨l,h,_⟩ | ⟨ba,er,t,r,_,_,h⟩
 ·exact h.lt
 ·exact h.lt
theorem SC.below{w w':World}{bp n:Nat}{G:Nat->List Tk->OO}{E:Out->Prop}(h:SC w bp n G E)(hb:Below w.heap.size w w'):SC w' bp n G E:=by
 rcases h with ⟨l,h,g⟩ | ⟨ba,er,t,r,h1,h2,h⟩
 ·exact .inl ⟨l,h.below hb,g⟩
 ·exact .inr ⟨ba,er,t,r,h1,h2,h.below hb⟩
theorem SC.far{X:Nat->Prop}{w w':World}{bp n:Nat}{G:Nat->List Tk->OO}{E:Out->Prop}(h:SC w bp n G E)(hu:Upd X w w')(hX:∀ b,X b->bp < b):SC w' bp n G E:=by
 rcases h with ⟨l,h,g⟩ | ⟨ba,er,t,r,h1,h2,h⟩
 ·exact .inl ⟨l,h.far hu hX,g⟩
 ·exact .inr ⟨ba,er,t,r,h1,h2,h.far hu hX⟩
theorem SC.why{w:World}{bp n:Nat}{G:Nat->List Tk->OO}{E:Out->Prop}(h:SC w bp n G E)(hw:whyQ w bp = 0):∃ l,QS w bp l 0 0/\Gt l/\l.length<=n/\∀ o,Ev (fun f=>G f l) o->E o:=by
 rcases h with h | ⟨ba,er,t,r,h1,h2,h⟩
 ·exact h
 ·rw [h.why] at hw;omega
def Stay(bp:Nat)(w w':World):Prop:=whyQ w bp≠0->whyQ w' bp≠0
theorem q0E{w w':World}{bp ba:Nat}{l:List Tk}(h:QS w bp l ba 0):Stay bp w w':=fun hw=>absurd h.why hw
theorem q1B{w w':World}{bp ba er:Nat}{l:List Tk}(h:QS w' bp l ba er)(he:er≠0):Stay bp w w':=fun _=>by rw [h.why];omega
theorem q32{t:Tk}{r:List Tk}(h:Gt (t :: r))(ht:t.k≠0):r≠[]:=by
 obtain ⟨u,q,h2⟩:=(h.tail ht).cons;rw [h2];simp
theorem q0L(w:World)(bp n:Nat)(b:Bs)(G:Nat->List Tk->OO)(E:Out->Prop)(h:SC w bp n (fun f l=>must b l (fun r=>G f r)) E) :
  Calls Tryz.prog 55 #[.pointer (some ⟨bp,0,none⟩),.string ⟨b.toArray⟩] w fun e w'=>e=vd/\SC w' bp (n - 1) G E/\UB bp w w'/\Stay bp w w':=by
 rcases h with ⟨l,hq,hg,hl,hE⟩ | ⟨ba,er,t,r,he,hE,hq⟩
 ·obtain ⟨t,r,rfl⟩:=hg.cons;simp only [List.length_cons] at hl;by_cases hb:ak b t=true
  ·refine (must_yes w bp t r b hq hb (q32 hg (q1o hb))).mono ?_;rintro e w' ⟨rfl,hp,hu⟩;exact ⟨rfl,.inl ⟨r,hp,hg.tail (q1o hb),V0,fun o ho=>hE o (q0v ho fun f=>q0F hb _)⟩,hu,q0E hq⟩
  ·have hb':ak b t=false:=by simpa using hb
   refine (must_no w bp t r b hq hb').mono ?_;rintro e w' ⟨rfl,hp,hu⟩;exact ⟨rfl,.inr ⟨t.at_,100,t,r,V2,hE _ (q0v (q0a _) fun f=>q1p hb' _),hp⟩,hu,q0E hq⟩
 ·refine (q2Z w bp ba er t r b hq he).mono ?_;rintro e w' ⟨rfl,hb⟩;exact ⟨rfl,.inr ⟨ba,er,t,r,he,hE,hq.below hb⟩,q01 hb,q1B (hq.below hb) he⟩
theorem q2p(w:World)(bp n:Nat)(G:Bs->Nat->List Tk->OO)(E:Out->Prop)(h:SC w bp n (fun f l=>bE l (fun s r=>G s f r)) E) :
  Calls Tryz.prog 56 #[.pointer (some ⟨bp,0,none⟩)] w fun e w'=>∃ s:Bs,e = .returned (.string ⟨s.toArray⟩)/\SC w' bp (n - 1) (G s) E/\UB bp w w'/\Stay bp w w':=by
 rcases h with ⟨l,hq,hg,hl,hE⟩ | ⟨ba,er,t,r,he,hE,hq⟩
 ·obtain ⟨t,r,rfl⟩:=hg.cons;simp only [List.length_cons] at hl;by_cases hk:t.k = 1
  ·refine (name_yes w bp t r hq hk (q32 hg V0)).mono ?_;rintro e w' ⟨rfl,hp,hu⟩;exact ⟨t.s,rfl,.inl ⟨r,hp,hg.tail V0,V0,fun o ho=>hE o (q0v ho fun f=>q1q hk _)⟩,hu,q0E hq⟩
  ·refine (name_no w bp t r hq hk).mono ?_;rintro e w' ⟨rfl,hp,hu⟩;exact ⟨t.s,rfl,.inr ⟨t.at_,100,t,r,V2,hE _ (q0v (q0a _) fun f=>q37 hk _),hp⟩,hu,q0E hq⟩
 ·refine (q4w w bp ba er t r hq he).mono ?_;rintro e w' ⟨rfl,hb⟩;exact ⟨t.s,rfl,.inr ⟨ba,er,t,r,he,hE,hq.below hb⟩,q01 hb,q1B (hq.below hb) he⟩
def ExU(w:World)(bp n:Nat)(G:List Tr->Nat->List Tk->OO)(E:Out->Prop)(e:Ending)(w':World):Prop:=
 ∃ k a s m A la cA B lb cB x,e = .returned (.agg #[.int .i64 (k:Nat),.string ⟨(s:Bs).toArray⟩,.int .u32 (m:Nat),.int .i64 (a:Nat),.slice A la cA,.slice B lb cB]) /\
  (whyQ w' bp = 0->Ak (fun b=>w.heap.size<=b) w' x (bG k a s m A la cA B lb cB))/\SC w' bp (n - 1) (G [x]) E/\UB bp w w'/\Stay bp w w'
theorem ex_u(w:World)(bp n d:Nat)(G:List Tr->Nat->List Tk->OO)(E:Out->Prop)(h:SC w bp n (fun f l=>bnd (pF ag f (.aI 0) d l) (fun xs r=>G xs f r)) E) :
  Calls Tryz.prog 46 #[.pointer (some ⟨bp,0,none⟩),.int .i64 (d:Int)] w (ExU w bp n G E):=by
 rcases h with ⟨l,hq,hg,hl,hE⟩ | ⟨ba,er,t,r,he,hE,hq⟩
 ·refine (ex w bp d l hq hg).mono ?_;rintro e w' ⟨k,a,s,m,A,la,cA,B,lb,cB,rfl,hU,hO⟩;rcases hO with ⟨x,r,hT,hR,hP,hG,hr⟩ | ⟨ba,er,t,r,he,hR,hP⟩
  ·exact ⟨k,a,s,m,A,la,cA,B,lb,cB,x,rfl,fun _=>hT,.inl ⟨r,hP,hG,V0,fun o ho=>hE o (q0x (K:=fun f xs r=>G xs f r) hR ho)⟩,hU,q0E hq⟩
  ·refine ⟨k,a,s,m,A,la,cA,B,lb,cB,.mk 0 0 [] 0 [] [],rfl,fun hw=>?_,.inr ⟨ba,er,t,r,he,hE _ (q0X (K:=fun f xs r=>G xs f r) hR),hP⟩,hU,q0E hq⟩;rw [hP.why] at hw;omega
 ·refine (ex_dead w bp ba er d t r hq he).mono ?_;rintro e w' ⟨rfl,hb⟩;refine ⟨0,0,[],0,none,0,0,none,0,0,.mk 0 0 [] 0 [] [],rfl,fun hw=>?_,.inr ⟨ba,er,t,r,he,hE,hq.below hb⟩,q01 hb,q1B (hq.below hb) he⟩;rw [(hq.below hb).why] at hw;omega
section
attribute [local go_sem] bH bI bJ
theorem ev_up{K K':Nat->OO}{o:Out}(h:Ev K o)(he:∀ f,K' (f+1)=K f):Ev K' o:=by
 obtain ⟨g,hg⟩:=h;refine ⟨g+1,fun f hf=>?_⟩;obtain ⟨j,rfl⟩:∃ j,f=j+1:=⟨f - 1,V0⟩;rw [he];exact hg j V0
def FinK(f k a:Nat)(s:Bs)(ps:List Bs)(d:Nat)(l:List Tk):OO:=bnd (pF ag f (.aI 0) d l) fun xs r=>must [59] r fun r'=>some (.ok [.mk k a s 0 ps xs] r')
theorem set_fin(f k a d:Nat)(l:List Tk):SetK ag (f+1) k a d l=(bE l fun s r1=>must [61] r1 fun r2=>FinK f k a s [] d r2):=rfl
theorem let_E{d:Nat}{t:Tk}{r:List Tk}{o:Out}(hd:d<=60)(hf:ak [102,111,114] t=false)(h:Ev (fun f=>bE (t :: r) fun s r1=>must [61] r1 fun r2=>FinK f 10 t.at_ s [] d r2) o):Rd ag .inner d (t :: r) o:=
 r_let hd hf (ev_up h fun f=>set_fin f 10 t.at_ d (t :: r))
theorem SC.stay{w w':World}{bp n:Nat}{G:Nat->List Tk->OO}{E:Out->Prop}(h:SC w bp n G E)(hb:Below w.heap.size w w'):Stay bp w w':=by
 rcases h with ⟨l,h,g⟩ | ⟨ba,er,t,r,h1,h2,h⟩
 ·exact q0E h
 ·exact q1B (h.below hb) h1
theorem Stay.back{bp:Nat}{w w':World}(h:Stay bp w w')(h0:whyQ w' bp = 0):whyQ w bp = 0:=by
 by_cases h1:whyQ w bp = 0
 ·exact h1
 ·exact absurd h0 (h h1)
theorem q1C{w:World}{bp ba:Nat}{l:List Tk}(h:QS w bp l ba 0):whyQ w bp = 0:=h.why
theorem in_letD(w:World)(bp d:Nat)(t:Tk)(r:List Tk)(hp:QS w bp (t :: r) 0 0)(hg:Gt (t :: r))(hd:60 < d) :
  Calls Tryz.prog 57 #[.pointer (some ⟨bp,0,none⟩),.int .i64 (d:Int)] w (AU w bp (t :: r) (Rd ag .inner d (t :: r))):=by
 obtain ⟨w0,hw0,hb0,hB⟩:=q04 w;have hlt:=hp.lt;have HT:=Hi (tok w0 bp 0 0 t r (hp.below hb0));have Bb:=Hi (hp.below hb0);have HG:=Hi hg;have HB0:=Hi hb0;have HB:=Hi hB;have HW:=Hi hw0;have hbl:=hB.lt;have hdi:(60:Int) < (d:Int):=V0;have HR:=Hi (q6f (num:=ag) (r:=r) (t:=t) hd);clear hb0 hB hp hw0 hg;go_enter Tryz.func57,Tryz.ntmps57;go_wp2_with fail
 rw [HW.out];refine HT.out.mono ?_;rintro e w1 ⟨rfl,hb1⟩;have h01:=hb1.size;have Be:=Hi (Bb.out.below hb1);have Aj:=Hi ((q01 (bp:=bp) HB0.out).trans (q01 hb1));have AP:=Hi (HB.out.below hb1 HB.out.lt);clear hb1 HT Bb;go_wp2_with fail
 refine (q1A w1 bp 150 t r Be.out).mono ?_;rintro e w2 ⟨rfl,hp2,hu2⟩;have h12:=hu2.size;have Ai:=Hi (Aj.out.trans hu2);have Ah:=Hi (AP.out.upd hu2 (show ¬ w.heap.size=bp from V0));have Ar:=Hi hp2;clear hp2 hu2;go_wp2_with fail
 refine (q03 w2 bp t.at_ 150 t r [102,111,114] Ar.out (.inl V2)).mono ?_;rintro e w3 ⟨rfl,hb3⟩;have HSC:Hid (SC w3 bp (r.length+1) (fun f l=>bE l fun s r1=>must [61] r1 fun r2=>FinK f 10 t.at_ s [] d r2) (Rd ag .inner d (t :: r))):=Hi (.inr ⟨t.at_,150,t,r,V2,HR.out,Ar.out.below hb3⟩);have h23:=hb3.size;have Aw:=Hi (Ai.out.trans (q01 hb3));have Aq:=Hi (Ah.out.below hb3 Ah.out.lt);clear hb3 Ar Ai Ah;go_wp2_with fail
 refine (q2p w3 bp _ _ _ HSC.out).mono ?_;rintro e w4 ⟨sn,rfl,hs4,aF,_⟩;have h34:=aF.size;have HS4:=Hi hs4;have AO:=Hi (Aw.out.trans aF);have Ba:=Hi (Aq.out.upd aF (show ¬ w.heap.size=bp from V0));clear hs4 aF HSC Aw Aq;go_wp2_with fail
 refine (q0L w4 bp _ _ _ _ HS4.out).mono ?_;rintro e w5 ⟨rfl,hs5,bn,_⟩;have h45:=bn.size;have HS5:=Hi hs5;have AR:=Hi (AO.out.trans bn);have AX:=Hi (Ba.out.upd bn (show ¬ w.heap.size=bp from V0));clear hs5 bn HS4 AO Ba;go_wp2_with fail
 refine (ex_u w5 bp _ d (fun xs f r=>must [59] r fun r'=>some (.ok [.mk 10 t.at_ sn 0 [] xs] r')) _ HS5.out).mono ?_;rintro e w6 ⟨k,a,s,m,A,la,cA,B,lb,cB,x,rfl,hT,hS,hU,_⟩;obtain ⟨w7,hw7,bO,hbn⟩:=aS w6 #[.int .i64 (k:Int),.string ⟨s.toArray⟩,.int .u32 (m:Int),.int .i64 (a:Int),.slice A la cA,.slice B lb cB] 26;have h56:=hU.size;have h67:=hbn.lt;have HT6:=Hi hT;have HS7:=Hi (hS.below bO);have HST:=Hi (hS.stay bO);have HU7:=Hi ((AR.out.trans hU).trans (q01 bO));have HX7:=Hi ((AX.out.upd hU (show ¬ w.heap.size=bp from V0)).below bO V0);have HB7:=Hi bO;have HW7:=Hi hw7;have HBN:=Hi hbn;clear hT hS hU bO hw7 hbn HS5 AR AX;go_wp2_with fail
 rw [HW7.out];refine (q0L w7 bp _ _ _ _ HS7.out).mono ?_;rintro e w8 ⟨rfl,aV,bU,hst8⟩;have h78:=bU.size;have hn8:=HBN.out.upd bU (show ¬ w6.heap.size=bp from V0);obtain ⟨⟨g0,g1,g2,g3,g4,g5⟩,x0,x1,x2,x3,x4,x5⟩:=Aa.c6 hn8;have hn8l:=hn8.lt;have HS8:=Hi aV;have HST8:=Hi hst8;have HU8:=Hi (HU7.out.trans bU);have HX8:=Hi (HX7.out.upd bU (show ¬ w.heap.size=bp from V0));have HU78:=Hi bU;clear aV bU hst8 hn8 HS7 HU7 HX7;go_wp2_with fail
 obtain ⟨w9,hw9,hb9,-⟩:=aS w8 #[.int .i64 (k:Int),.string ⟨s.toArray⟩,.int .u32 (m:Int),.int .i64 (a:Int),.slice A la cA,.slice B lb cB] 26;rw [hw9];refine (node w9 10 t.at_ sn _ 1 1).mono ?_;rintro e w10 ⟨rfl,df⟩;have hb89:Below w8.heap.size w8 w10:=hb9.trans (df.mono hb9.size);have hx:=HX8.out.below hb89 HX8.out.lt;obtain ⟨⟨e0,e1,e2,e3,e4,e5⟩,z0,z1,z2,z3,z4,z5⟩:=Aa.c6 hx;have H1:=Hi hx;have HB8:=Hi hb89;have HB10:=Hi df;have HW9:=Hi hw9;clear hx hb89 hb9 df hw9 g0 g1 g2 g3 g4 g5 x0 x1 x2 x3 x4 x5;go_wp2_with fail
 refine bodyPost_ret (aH rfl rfl (Aa.az H1.out _ _ _ _ _ _) rfl) rfl ?_;have hU10:UB bp w w10:=HU8.out.trans (q01 HB8.out);rcases HS8.out with ⟨l8,hq8,hg8,hl8,hE8⟩ | ⟨ba,er,t8,r8,he8,hE8,hq8⟩
 ·exact V2h
 ·exact V44
theorem in_let(w:World)(bp d:Nat)(t:Tk)(r:List Tk)(hp:QS w bp (t :: r) 0 0)(hg:Gt (t :: r))(hd:d<=60)(hf:ak [102,111,114] t=false) :
  Calls Tryz.prog 57 #[.pointer (some ⟨bp,0,none⟩),.int .i64 (d:Int)] w (AU w bp (t :: r) (Rd ag .inner d (t :: r))):=by
 obtain ⟨w0,hw0,hb0,hB⟩:=q04 w;have hlt:=hp.lt;have HT:=Hi (tok w0 bp 0 0 t r (hp.below hb0));have Bb:=Hi (hp.below hb0);have HG:=Hi hg;have HB0:=Hi hb0;have HB:=Hi hB;have HW:=Hi hw0;have hbl:=hB.lt;have hdi:¬ (60:Int) < (d:Int):=V0;have HF:=Hi hf;clear hb0 hB hp hw0 hg hf;go_enter Tryz.func57,Tryz.ntmps57;go_wp2_with fail
 rw [HW.out];refine HT.out.mono ?_;rintro e w1 ⟨rfl,hb1⟩;have h01:=hb1.size;have Be:=Hi (Bb.out.below hb1);have Aj:=Hi ((q01 (bp:=bp) HB0.out).trans (q01 hb1));have AP:=Hi (HB.out.below hb1 HB.out.lt);clear hb1 HT Bb;go_wp2_with fail
 try rw [show decide ((60:Int) < (d:Int))=false from decide_eq_false V0]
 refine (q0n w1 bp 0 0 150 false t r Be.out (.inl rfl)).mono ?_;rintro e w' ⟨rfl,rfl⟩;have Ai:=Aj;have Ah:=AP;have Ar:=Be;have h12:=Nat.le_refl w1.heap.size;go_wp2_with fail
 refine (q03 w1 bp 0 0 t r [102,111,114] Ar.out (.inr HF.out)).mono ?_;rintro e w3 ⟨rfl,hb3⟩;have HSC:Hid (SC w3 bp (r.length+1) (fun f l=>bE l fun s r1=>must [61] r1 fun r2=>FinK f 10 t.at_ s [] d r2) (Rd ag .inner d (t :: r))):=Hi (.inl ⟨t :: r,Ar.out.below hb3,HG.out,V3,fun o ho=>let_E hd HF.out ho⟩);have h23:=hb3.size;have Aw:=Hi (Ai.out.trans (q01 hb3));have Aq:=Hi (Ah.out.below hb3 Ah.out.lt);clear hb3 Ar Ai Ah;go_wp2_with fail
 refine (q2p w3 bp _ _ _ HSC.out).mono ?_;rintro e w4 ⟨sn,rfl,hs4,aF,_⟩;have h34:=aF.size;have HS4:=Hi hs4;have AO:=Hi (Aw.out.trans aF);have Ba:=Hi (Aq.out.upd aF (show ¬ w.heap.size=bp from V0));clear hs4 aF HSC Aw Aq;go_wp2_with fail
 refine (q0L w4 bp _ _ _ _ HS4.out).mono ?_;rintro e w5 ⟨rfl,hs5,bn,_⟩;have h45:=bn.size;have HS5:=Hi hs5;have AR:=Hi (AO.out.trans bn);have AX:=Hi (Ba.out.upd bn (show ¬ w.heap.size=bp from V0));clear hs5 bn HS4 AO Ba;go_wp2_with fail
 refine (ex_u w5 bp _ d (fun xs f r=>must [59] r fun r'=>some (.ok [.mk 10 t.at_ sn 0 [] xs] r')) _ HS5.out).mono ?_;rintro e w6 ⟨k,a,s,m,A,la,cA,B,lb,cB,x,rfl,hT,hS,hU,_⟩;obtain ⟨w7,hw7,bO,hbn⟩:=aS w6 #[.int .i64 (k:Int),.string ⟨s.toArray⟩,.int .u32 (m:Int),.int .i64 (a:Int),.slice A la cA,.slice B lb cB] 26;have h56:=hU.size;have h67:=hbn.lt;have HT6:=Hi hT;have HS7:=Hi (hS.below bO);have HST:=Hi (hS.stay bO);have HU7:=Hi ((AR.out.trans hU).trans (q01 bO));have HX7:=Hi ((AX.out.upd hU (show ¬ w.heap.size=bp from V0)).below bO V0);have HB7:=Hi bO;have HW7:=Hi hw7;have HBN:=Hi hbn;clear hT hS hU bO hw7 hbn HS5 AR AX;go_wp2_with fail
 rw [HW7.out];refine (q0L w7 bp _ _ _ _ HS7.out).mono ?_;rintro e w8 ⟨rfl,aV,bU,hst8⟩;have h78:=bU.size;have hn8:=HBN.out.upd bU (show ¬ w6.heap.size=bp from V0);obtain ⟨⟨g0,g1,g2,g3,g4,g5⟩,x0,x1,x2,x3,x4,x5⟩:=Aa.c6 hn8;have hn8l:=hn8.lt;have HS8:=Hi aV;have HST8:=Hi hst8;have HU8:=Hi (HU7.out.trans bU);have HX8:=Hi (HX7.out.upd bU (show ¬ w.heap.size=bp from V0));have HU78:=Hi bU;clear aV bU hst8 hn8 HS7 HU7 HX7;go_wp2_with fail
 obtain ⟨w9,hw9,hb9,-⟩:=aS w8 #[.int .i64 (k:Int),.string ⟨s.toArray⟩,.int .u32 (m:Int),.int .i64 (a:Int),.slice A la cA,.slice B lb cB] 26;rw [hw9];refine (node w9 10 t.at_ sn _ 1 1).mono ?_;rintro e w10 ⟨rfl,df⟩;have hb89:Below w8.heap.size w8 w10:=hb9.trans (df.mono hb9.size);have hx:=HX8.out.below hb89 HX8.out.lt;obtain ⟨⟨e0,e1,e2,e3,e4,e5⟩,z0,z1,z2,z3,z4,z5⟩:=Aa.c6 hx;have H1:=Hi hx;have HB8:=Hi hb89;have HB10:=Hi df;have HW9:=Hi hw9;clear hx hb89 hb9 df hw9 g0 g1 g2 g3 g4 g5 x0 x1 x2 x3 x4 x5;go_wp2_with fail
 refine bodyPost_ret (aH rfl rfl (Aa.az H1.out _ _ _ _ _ _) rfl) rfl ?_;have hU10:UB bp w w10:=HU8.out.trans (q01 HB8.out);rcases HS8.out with ⟨l8,hq8,hg8,hl8,hE8⟩ | ⟨ba,er,t8,r8,he8,hE8,hq8⟩
 ·exact V2h
 ·exact V44
end
section
attribute [local go_sem] bH bI bJ
def Gk(b:Bs)(A B:Nat->List Tk->OO)(f:Nat)(l:List Tk):OO:=match l with
 | []=>none
 | t :: r=>if ak b t=true then A f r else B f (t :: r)
theorem SC.imp{w:World}{bp n:Nat}{G G':Nat->List Tk->OO}{E:Out->Prop}(h:SC w bp n G E)(he:∀ f l,Gt l->G' f l=G f l):SC w bp n G' E:=by
 rcases h with ⟨l,h1,h2,h3,h4⟩ | h
 ·exact .inl ⟨l,h1,h2,h3,fun o ho=>h4 o (q0v ho fun f=>(he f l h2).symm)⟩
 ·exact .inr h
theorem SC.le{w:World}{bp n m:Nat}{G:Nat->List Tk->OO}{E:Out->Prop}(h:SC w bp n G E)(hm:n<=m):SC w bp m G E:=by
 rcases h with ⟨l,h1,h2,h3,h4⟩ | h
 ·exact .inl ⟨l,h1,h2,V0,h4⟩
 ·exact .inr h
theorem SC.me{w:World}{bp n:Nat}{G:Nat->List Tk->OO}{E:Out->Prop}(h:SC w bp n G E):meQ w bp<=n+1:=by
 rcases h with ⟨l,h1,h2,h3,h4⟩ | ⟨ba,er,t,r,he,_,h⟩
 ·rw [h1.me];omega
 ·rw [h.me0 he];omega
theorem goes_u(w:World)(bp n:Nat)(b:Bs)(A B:Nat->List Tk->OO)(E:Out->Prop)(h:SC w bp n (Gk b A B) E) :
  Calls Tryz.prog 53 #[.pointer (some ⟨bp,0,none⟩),.string ⟨b.toArray⟩] w fun e w'=>
   (e = .returned (.bool true)/\(∃ l,QS w' bp l 0 0/\Gt l/\l.length+1<=n/\l.length+1 < meQ w bp/\∀ o,Ev (fun f=>A f l) o->E o)/\UB bp w w'/\Stay bp w w')\/(e = .returned (.bool false)/\SC w' bp n B E/\Below w.heap.size w w'/\Stay bp w w'):=by
 rcases h with ⟨l,hq,hg,hl,hE⟩ | ⟨ba,er,t,r,he,hE,hq⟩
 ·obtain ⟨t,r,rfl⟩:=hg.cons;have hm:=hq.me;simp only [List.length_cons] at hl hm;by_cases hb:ak b t=true
  ·refine (q0p w bp t r b hq hb (q32 hg (q1o hb))).mono ?_;rintro e w' ⟨rfl,hp,hu⟩;exact .inl ⟨rfl,⟨r,hp,hg.tail (q1o hb),V0,V0,fun o ho=>hE o (q0v ho fun f=>if_pos hb)⟩,hu,q0E hq⟩
  ·have hb':ak b t=false:=by simpa using hb
   refine (q03 w bp 0 0 t r b hq (.inr hb')).mono ?_;rintro e w' ⟨rfl,hb2⟩;exact .inr ⟨rfl,.inl ⟨t :: r,hq.below hb2,hg,Vp,fun o ho=>hE o (q0v ho fun f=>if_neg hb)⟩,hb2,q0E hq⟩
 ·refine (q03 w bp ba er t r b hq (.inl he)).mono ?_;rintro e w' ⟨rfl,hb⟩;exact .inr ⟨rfl,.inr ⟨ba,er,t,r,he,hE,hq.below hb⟩,hb,q1B (hq.below hb) he⟩
theorem Stay.trans{bp:Nat}{w w1 w2:World}(h:Stay bp w w1)(h2:Stay bp w1 w2):Stay bp w w2:=fun hw=>h2 (h hw)
theorem stay_eq{bp:Nat}{w w':World}(h:whyQ w' bp=whyQ w bp):Stay bp w w':=fun hw=>by rw [h];exact hw
def NmK(ps:List Bs)(G:List Bs->Nat->List Tk->OO)(f:Nat)(l:List Tk):OO:=aC ps l fun ps r=>G ps f r
def CmK(ps:List Bs)(G:List Bs->Nat->List Tk->OO):Nat->List Tk->OO:=Gk [44] (NmK ps G) (G ps)
theorem nm_k(ps:List Bs)(G:List Bs->Nat->List Tk->OO)(f:Nat)(l:List Tk)(hg:Gt l):bE l (fun s r=>CmK (ps ++ [s]) G f r)=NmK ps G f l:=by
 obtain ⟨t,r,rfl⟩:=hg.cons;by_cases hk:t.k = 1
 ·obtain ⟨u,q,hr⟩:=(hg.tail V0).cons;subst hr;rw [q1q hk];unfold NmK CmK Gk;by_cases hu:ak [44] u=true
  ·rw [nk_go _ hk hu];exact if_pos hu
  ·rw [q6i _ hk V0B];exact if_neg hu
 ·rw [q37 hk];unfold NmK;rw [nk_no _ hk]
structure NqI(w:World)(bp n:Nat)(G:List Bs->Nat->List Tk->OO)(E:Out->Prop)(ps:List Bs)(g c m:Nat)(W:World):Prop where
 sc:SC W bp m (CmK ps G) E
 own:W.ownsRow w.heap.size 9 1 (.slice (some ⟨g,0,none⟩) ps.length c) ps.length (ps.map ai)
 few:ps.length+m<=n+1
 less:m<=n - 1
 ub:UB bp w W
 stay:Stay bp w W
theorem q8c{w w':World}{bp g:Nat}(hb:bp < w.heap.size)(hu:Upd (fun b=>b=g) w w')(hg:bp≠g):whyQ w' bp=whyQ w bp:=by
 unfold whyQ;have h:=hu.block bp hb hg;unfold World.cell?;simp only [h]
theorem q4Q(w:World)(bp n:Nat)(hn:n<=4000)(G:List Bs->Nat->List Tk->OO)(E:Out->Prop)(h:SC w bp n (NmK [] G) E) :
  Calls Tryz.prog 54 #[.pointer (some ⟨bp,0,none⟩)] w fun e w'=>∃ ps g c,e = .returned (.slice (some ⟨g,0,none⟩) ps.length c)/\Af w' (some ⟨g,0,none⟩) (ps.map ai)/\w.heap.size<=g/\(ps.length<=4001/\ps.length<=c/\c<=maxLen)/\SC w' bp (n - 1) (G ps) E/\UB bp w w'/\Stay bp w w':=by
 have hlt:=h.lt;obtain ⟨i0,hi,hz⟩:=Option.map_eq_some_iff.1 infoSt;have hz0:=congrArg (·.1) hz;have hz1:=congrArg (·.2.1) hz;have hz2:=congrArg (·.2.2) hz;have HI:=Hi hi;have HZ0:=Hi hz0;have HZ1:=Hi hz1;have HZ2:=Hi hz2;have HN:=Hi (q2p w bp n (fun s=>CmK [s] G) E (h.imp fun f l hg=>nm_k [] G f l hg));clear hi hz hz0 hz1 hz2 h;go_enter Tryz.func54,Tryz.ntmps54;go_wp2_with fail
 refine HN.out.mono ?_;rintro e w1 ⟨s1,rfl,hs1,hu1,hst1⟩;have HJ:Hid (NqI w bp n G E [s1] w1.heap.size 1 (n - 1) (w1.alloc (.cells #[.string ⟨s1.toArray⟩] 9))):=Hi ⟨hs1.below ((Below.refl _ _).alloc (Nat.le_refl _) _),q11 w1 hu1.size 9 1 1 [.string ⟨s1.toArray⟩] rfl V2,V4,Nat.le_refl _,hu1.alloc _,hst1.trans (hs1.stay ((Below.refl _ _).alloc (Nat.le_refl _) _))⟩;clear hs1 hu1 hst1 HN;go_wp2_with fail
 go_loopw [3] (fun vl wr=>∃ ps g c m,vl = .slice (some ⟨g,0,none⟩) ps.length c/\Hid (NqI w bp n G E ps g c m wr)) (fun _ wr=>meQ wr bp)
 case atStart=>exact ⟨[s1],_,_,_,rfl,HJ⟩
 case round=>
  clear HJ;obtain ⟨ps,g,c,m,rfl,HH⟩:=hrel;have hgs:=q0Q HH.out.own;go_wp2_with fail
  refine (goes_u wr bp m [44] _ _ E HH.out.sc).mono ?_;rintro e w2 (⟨rfl,⟨l,hq,hgt,hlm,hme,hE⟩,hu2,hst2⟩ | ⟨rfl,hsc,hb2,hst2⟩)
  ·have HNM:=Hi (q2p w2 bp l.length (fun s=>CmK (ps ++ [s]) G) E (.inl ⟨l,hq,hgt,Nat.le_refl _,fun o ho=>hE o (q0v ho fun f=>(nm_k ps G f l hgt).symm)⟩));have hl0:0 < l.length:=by obtain ⟨t,r,rfl⟩:=hgt.cons;simp
   have Ai:=Hi hu2;have HST2:=Hi hst2;clear hq hgt hE hu2 hst2;go_wp2_with fail
   refine HNM.out.mono ?_;rintro e w5 ⟨sn,rfl,hs5,bn,hst5⟩;have hu5':UB bp wr w5:=Ai.out.trans bn;have how:w5.ownsRow w.heap.size 9 1 (.slice (some ⟨g,0,none⟩) ps.length c) ps.length (ps.map ai):=q0O HH.out.own hu5' V0;have HOA:=Hi (World.ownsRow.alloc how (.cells #[.string ⟨sn.toArray⟩] 9));have HLI:=Hi (q06 w5 9 [.string ⟨sn.toArray⟩]);have hsz:w.heap.size<=w5.heap.size:=Nat.le_trans HH.out.ub.size hu5'.size;have HBS:=Hi (show w.heap.size<=(w5.alloc (.cells #[.string ⟨sn.toArray⟩] 9)).heap.size from V4);have hfew:ps.length<=4001:=by have:=HH.out.few;omega
   have HS5:=Hi hs5;have AR:=Hi hu5';have HST5:=Hi hst5;have HOW:=Hi how;clear hs5 bn hu5' hst5 how;go_wp2_with (at_builtin;refine q0d rfl _ _ 24 rfl w.heap.size 9 i0 (.string ⟨#[]⟩) 1 16 Tryz.underlying24 HI.out HZ0.out HZ1.out HZ2.out rfl V2 _ ps.length _ rfl HOA.out ⟨w5.heap.size,0,none⟩ 1 1 [.string ⟨sn.toArray⟩] rfl rfl HLI.out V0s V6 V0 HBS.out V2 ?_;intro g8 c8 w8 hE;have HE:=Hi hE;clear hE)
   have hu58:Upd (fun b=>b=g) w5 w8:=((Upd.refl _ w5).alloc _).grown HE.out.grown fun k hk _=>Vx
   have hJ8:NqI w bp n G E (ps ++ [sn]) g8 c8 (l.length - 1) w8:=by
    refine ⟨HS5.out.far hu58 fun b hb=>V0,?_,?_,by have:=HH.out.less;omega,?_,?_⟩
    ·rw [List.length_append,List.map_append];exact HE.out.own
    ·have:=HH.out.few;simp only [List.length_append,List.length_cons,List.length_nil];omega
    ·refine ((((HH.out.ub.trans AR.out).mono fun k hk=>Or.inl hk).trans (hu58.mono fun k hk=>Or.inr hk)):Upd (fun b=>b=bp\/b=g) w w8).fresh fun k hk hs=>?_
     rcases hk with hk | hk
     ·exact hk
     ·subst hk;exact absurd hs V0
    ·exact ((HH.out.stay.trans HST2.out).trans HST5.out).trans (stay_eq (q8c HS5.out.lt hu58 V0))
   have HJ8:=Hi hJ8;clear hJ8 hu58
   go_roundw
   case rel=>exact ⟨ps ++ [sn],g8,c8,_,V0t,HJ8⟩
   case measure=>
    have:=HJ8.out.sc.me;omega
  ·have HSC:=Hi hsc;have HB2:=Hi hb2;have HST2:=Hi hst2;clear hsc hb2 hst2;go_wp2_with fail
   go_ret;have hs:=q6k HH.out.own;have hfew:=HH.out.few;exact ⟨ps,g,c,rfl,hs.1.below HB2.out,hs.2,⟨V0,(Pa.own_cap HH.out.own V0).le,(Pa.own_cap HH.out.own V0).cap⟩,HSC.out.le (by have:=HH.out.less;omega),HH.out.ub.trans (q01 HB2.out),HH.out.stay.trans HST2.out⟩
end
end Pq
end Go.Proofs.YtcgibpdjfgjldaaGreatDoor
