/- DERIVED. RqLv. By an AI agent. -/
import Derived.Test.YtcgibpdjfgjldaaGreatDoorR34
set_option maxRecDepth 100000
set_option maxHeartbeats 4000000
set_option linter.unusedVariables false
set_option linter.unusedSimpArgs false
open Go Go.ChangeShapes Go.WideShapes Go.ChangeAt Go.RowKit
namespace Go.Proofs.YtcgibpdjfgjldaaGreatDoor
namespace Pq
open Lx Args Pa
section
attribute [local go_sem] bH bI bJ
def LvQ(n M:Nat):Prop:=∀ (w:World) (bp d:Nat) (l:List Tk),l.length<=M->QS w bp l 0 0->Gt l ->
 Calls Tryz.prog 88 #[.pointer (some ⟨bp,0,none⟩),.int .i64 (n:Int),.int .i64 (d:Int)] w (AU w bp l (Rd ag (.aI n) d l))
def sgW(w:World)(g:Nat):World:=(((((w.alloc (.cells #[.string ⟨#[124]⟩] 9)).alloc (.cells #[.string ⟨#[94]⟩] 9)).alloc (.cells #[.string ⟨#[38]⟩] 9)).alloc (.cells #[.string ⟨#[60,60]⟩,.string ⟨#[62,62]⟩,.string ⟨#[60,60,60]⟩] 9)).alloc (.cells #[.string ⟨#[43]⟩,.string ⟨#[45]⟩] 9)).alloc
 (.cells #[.slice (some ⟨g,0,none⟩) 1 1,.slice (some ⟨g+1,0,none⟩) 1 1,.slice (some ⟨g+1+1,0,none⟩) 1 1,.slice (some ⟨g+1+1+1,0,none⟩) 3 3,.slice (some ⟨g+1+1+1+1,0,none⟩) 2 2] 24)
theorem q77(w:World)(g:Nat):Below w.heap.size w (sgW w g)/\Af (sgW w g) (some ⟨w.heap.size,0,none⟩) (strs [[124]])/\Af (sgW w g) (some ⟨w.heap.size+1,0,none⟩) (strs [[94]])/\Af (sgW w g) (some ⟨w.heap.size+1+1,0,none⟩) (strs [[38]]) /\
  Af (sgW w g) (some ⟨w.heap.size+1+1+1,0,none⟩) (strs [[60,60],[62,62],[60,60,60]])/\Af (sgW w g) (some ⟨w.heap.size+1+1+1+1,0,none⟩) (strs [[43],[45]]):=by
 have B:∀ (w:World) (o:Obj),Below w.heap.size w (w.alloc o):=fun w o=>(Below.refl _ _).alloc (Nat.le_refl _) _
 have S:∀ (w:World) (o:Obj),(w.alloc o).heap.size=w.heap.size+1:=fun w o=>V3
 have T:∀ {a b c:World},Below a.heap.size a b->Below b.heap.size b c->Below a.heap.size a c:=fun h1 h2=>h1.trans (h2.mono h1.size)
 unfold sgW;obtain ⟨o6,h6⟩:∃ o6:Obj,Obj.cells #[.slice (some ⟨g,0,none⟩) 1 1,.slice (some ⟨g+1,0,none⟩) 1 1,.slice (some ⟨g+1+1,0,none⟩) 1 1,.slice (some ⟨g+1+1+1,0,none⟩) 3 3,.slice (some ⟨g+1+1+1+1,0,none⟩) 2 2] 24=o6:=⟨_,rfl⟩;rw [h6];obtain ⟨a1,h1⟩:∃ a1,w.alloc (.cells #[.string ⟨#[124]⟩] 9)=a1:=⟨_,rfl⟩;obtain ⟨a2,h2⟩:∃ a2,a1.alloc (.cells #[.string ⟨#[94]⟩] 9)=a2:=⟨_,rfl⟩;obtain ⟨a3,h3⟩:∃ a3,a2.alloc (.cells #[.string ⟨#[38]⟩] 9)=a3:=⟨_,rfl⟩;obtain ⟨a4,h4⟩:∃ a4,a3.alloc (.cells #[.string ⟨#[60,60]⟩,.string ⟨#[62,62]⟩,.string ⟨#[60,60,60]⟩] 9)=a4:=⟨_,rfl⟩;obtain ⟨a5,h5⟩:∃ a5,a4.alloc (.cells #[.string ⟨#[43]⟩,.string ⟨#[45]⟩] 9)=a5:=⟨_,rfl⟩;rw [h1,h2,h3,h4,h5];have s1:a1.heap.size=w.heap.size+1:=by rw [<-h1];exact S _ _
 have s2:a2.heap.size=w.heap.size+1+1:=by rw [<-h2,S,s1]
 have s3:a3.heap.size=w.heap.size+1+1+1:=by rw [<-h3,S,s2]
 have s4:a4.heap.size=w.heap.size+1+1+1+1:=by rw [<-h4,S,s3]
 have b1:Below w.heap.size w a1:=by rw [<-h1];exact B _ _
 have b2:Below a1.heap.size a1 a2:=by rw [<-h2];exact B _ _
 have b3:Below a2.heap.size a2 a3:=by rw [<-h3];exact B _ _
 have b4:Below a3.heap.size a3 a4:=by rw [<-h4];exact B _ _
 have b5:Below a4.heap.size a4 a5:=by rw [<-h5];exact B _ _
 have b6:Below a5.heap.size a5 (a5.alloc o6):=B _ _;have l1:Af a1 (some ⟨w.heap.size,0,none⟩) (strs [[124]]):=by rw [<-h1];exact q0K w 9 [[124]]
 have l2:Af a2 (some ⟨w.heap.size+1,0,none⟩) (strs [[94]]):=by rw [<-h2,<-s1];exact q0K a1 9 [[94]]
 have l3:Af a3 (some ⟨w.heap.size+1+1,0,none⟩) (strs [[38]]):=by rw [<-h3,<-s2];exact q0K a2 9 [[38]]
 have l4:Af a4 (some ⟨w.heap.size+1+1+1,0,none⟩) (strs [[60,60],[62,62],[60,60,60]]):=by rw [<-h4,<-s3];exact q0K a3 9 [[60,60],[62,62],[60,60,60]]
 have l5:Af a5 (some ⟨w.heap.size+1+1+1+1,0,none⟩) (strs [[43],[45]]):=by rw [<-h5,<-s4];exact q0K a4 9 [[43],[45]]
 exact ⟨T b1 (T b2 (T b3 (T b4 (T b5 b6)))),l1.below (T b2 (T b3 (T b4 (T b5 b6)))),l2.below (T b3 (T b4 (T b5 b6))),l3.below (T b4 (T b5 b6)),l4.below (T b5 b6),l5.below b6⟩
theorem tIn_at{N:Nat->Prop}{w:World}{x:Tr}{k a s n A la cA B lb cB}(h:Ak N w x (bG k a s n A la cA B lb cB)):x.place=a:=by
 cases x with
 | mk k1 a1 s1 n1 ps l=>
  unfold Ak at h;obtain ⟨A1,cA1,B1,cB1,h1,h2⟩:=h;unfold bG at h1;simp only [List.cons.injEq,Value.int.injEq,true_and] at h1;show a1=a;have:=h1.2.2.2.1;omega
theorem q8M{e:TypeId}{N:Nat->Prop}{w:World}{x y:Tr}{c1 c2:List Value}(h1:Ak N w x c1)(h2:Ak N w y c2)(hN:N w.heap.size)(k a n:Nat)(s:Bs) :
  Ak N (w.alloc (.cells (c1 ++ c2).toArray e)) (.mk k a s n [] [x,y]) (bG k a s n (some ⟨w.heap.size,0,none⟩) 2 2 none 0 0):=by
 have ha:Upd (fun _=>False) w (w.alloc (.cells (c1 ++ c2).toArray e)):=(Upd.refl _ w).alloc _;unfold Ak;refine ⟨some ⟨w.heap.size,0,none⟩,2,none,0,rfl,⟨V3,V3,V2⟩,⟨V3,V3,V2⟩,Af.nil _ _,fun b o e=>VI,[c1,c2],?_,fun b o e _=>?_,?_⟩
 ·simpa using q06 w e (c1 ++ c2)
 ·cases e;exact hN
 ·unfold AJ;refine ⟨c1,[c2],rfl,h1.upd ha fun _ _ h=>h,?_⟩;exact q12 (h2.upd ha fun _ _ h=>h)
def LvI(w:World)(bp d n:Nat)(l:List Tk)(g k a:Nat)(s:Bs)(m:Nat)(A:Option Addr)(la cA:Nat)(B:Option Addr)(lb cB:Nat)(W:World):Prop:=
 (∃ x l',Ak (fun b=>w.heap.size+1<=b/\b≠g) W x (bG k a s m A la cA B lb cB)/\(∀ o,Rd ag (.more n x) d l' o->Rd ag (.aI n) d l o)/\QS W bp l' 0 0/\Gt l'/\l'.length < l.length) \/
 (∃ ba er t r,er≠0/\Rd ag (.aI n) d l (.bad ba er)/\QS W bp (t :: r) ba er)
theorem lev0{M:Nat}(H:LvQ 1 M)(w:World)(bp d:Nat)(l:List Tk)(hl:l.length<=M)(hp:QS w bp l 0 0)(hg:Gt l) :
  Calls Tryz.prog 88 #[.pointer (some ⟨bp,0,none⟩),.int .i64 0,.int .i64 (d:Int)] w (AU w bp l (Rd ag (.aI 0) d l)):=by
 obtain ⟨w0,hw0,hb0,hB⟩:=q04 w;have hlt:=hp.lt;obtain ⟨t,r,rfl⟩:=hg.cons;obtain ⟨b',o,c,nn,hn,hll,hc,hm,⟨c0,c1,c2,c3⟩,⟨z0,z1,z2,z3⟩,f4,f5,f6⟩:=hp.head;have HE:=Hi (H w0 bp d (t :: r) hl (hp.below hb0) hg);have HB0:=Hi hb0;have HB:=Hi hB;have HW:=Hi hw0;have hbl:=hB.lt;clear hb0 hB hp hw0 hg hn;go_enter Tryz.func88,Tryz.ntmps88;go_wp2_with fail
 rw [HW.out];refine HE.out.mono ?_;rintro e w1 ⟨k,a,s,m,A,la,cA,B,lb,cB,rfl,hU,hO⟩;obtain ⟨w2,hw2,hb2,hbn⟩:=aS w1 #[.int .i64 (k:Int),.string ⟨s.toArray⟩,.int .u32 (m:Int),.int .i64 (a:Int),.slice A la cA,.slice B lb cB] 26;have hs2:w2.heap.size=w1.heap.size+1:=VS;have h01:=hU.size;have Ah:=Hi ((HB.out.upd hU (show ¬ w.heap.size=bp from V0)).below hb2 V0);have HY2:=Hi hbn;have Ai:=Hi (((q01 HB0.out).trans hU).trans (q01 hb2));have HO:=Hi hO;have HB2:=Hi hb2;have HW2:=Hi hw2;clear hU hO hb2 hbn hw2 HE HB c0 c1 c2 c3 z0 z1 z2 z3 f4 f5 f6;go_wp2_with fail
 rw [HW2.out];obtain ⟨w3,hw3⟩:∃ w3,sgW w2 (w1.heap.size+1)=w3:=⟨_,rfl⟩;have hsg:=q77 w2 (w1.heap.size+1);rw [hw3] at hsg;have hb3:=hsg.1;have hL3:Af w3 (some ⟨w1.heap.size+1,0,none⟩) (strs [[124]]):=by
  have:=hsg.2.1
  rwa [hs2] at this
 unfold sgW at hw3;rw [hw3];have h23:=hb3.size;have hX3:=Ah.out.below hb3 Ah.out.lt;have hY3:=HY2.out.below hb3 HY2.out.lt;have hU3:=Ai.out.trans (q01 hb3);have HJ:Hid (LvI w bp d 0 (t :: r) w1.heap.size k a s m A la cA B lb cB w3):=Hi (by
  rcases HO.out with ⟨x,r',hT,hR,hP,hG,hr⟩ | ⟨ba,er,v,r',he,hR,hP⟩
  ·exact V0d
  ·exact V0k)
 have Aq:=Hi hX3;have HY3:=Hi hY3;have Aw:=Hi hU3;have HL3:=Hi hL3;clear hsg hb3 hL3 hw3 hX3 hY3 hU3 HO Ah HY2 Ai
 go_loopw [] (fun wr=>∃ k a s m A la cA B lb cB,Hid (LvI w bp d 0 (t :: r) w1.heap.size k a s m A la cA B lb cB wr)/\Hid (Aa wr w1.heap.size 26 #[.int .i64 (k:Int),.string ⟨s.toArray⟩,.int .u32 (m:Int),.int .i64 (a:Int),.slice A la cA,.slice B lb cB])/\Hid (Aa wr w.heap.size 26 zNd)/\Hid (UB bp w wr)/\Hid (Af wr (some ⟨w1.heap.size+1,0,none⟩) (strs [[124]]))/\w3.heap.size<=wr.heap.size) (fun wr=>meQ wr bp)
 case atStart=>exact ⟨k,a,s,m,A,la,cA,B,lb,cB,HJ,HY3,Aq,Aw,HL3,Nat.le_refl _⟩
 case round=>
  clear HJ HY3 Aq Aw HL3;obtain ⟨k,a,s,m,A,la,cA,B,lb,cB,HJ,HYr,HXr,HUr,HLr,h3r⟩:=hrel;have hylt:=HYr.out.lt;rcases HJ.out with ⟨x,l',hT,hrd,hq,hG,hl'⟩ | ⟨ba,er,v,r',he,hR9,hP9⟩
  ·obtain ⟨v,r',rfl⟩:=hG.cons;obtain ⟨b',o,c,nn,hn,hll,hc,hm,⟨c0,c1,c2,c3⟩,⟨z0,z1,z2,z3⟩,f4,f5,f6⟩:=hq.head;have HT:=Hi hT;have HRD:=Hi hrd;have HQ:=Hi hq;have HG:=Hi hG;have hql:=hq.lt;clear hT hrd hq hG HJ hn;by_cases hk4:v.k = 4
   ·have hki:((v.k:Int)==4)=true:=by simp [hk4]
    cases hcon:[[124]].contains v.s
    ·have hon:onS 0 v=false:=by show (v.k==4 && ([[124]]:List Bs).contains v.s)=false;rw [hcon];simp
     have HON:=Hi hon;have HCON:=Hi hcon;clear hk4 hon hcon;go_wp2_with fail
     refine (tok wr bp 0 0 v r' HQ.out).mono ?_;rintro e wa ⟨rfl,aL⟩;have AA:=Hi aL;have hala:=aL.size;clear aL c0 c1 c2 c3 z0 z1 z2 z3 f4 f5 f6;go_wp2_with fail
     refine (tok wa bp 0 0 v r' (HQ.out.below AA.out)).mono ?_;rintro e wb ⟨rfl,hbb⟩;have Ay:=Hi (AA.out.trans (hbb.mono AA.out.size));have halb:=hbb.size;have hin:=in_ (some ⟨w1.heap.size+1,0,none⟩) 1 [[124]] ⟨v.s.toArray⟩ wb (HLr.out.below Ay.out) V2;rw [show ([[124]]:List Bs).contains (ByteArray.mk v.s.toArray).data.toList=false from HCON.out] at hin;exact V0j
    ·have hon:onS 0 v=true:=by show (v.k==4 && ([[124]]:List Bs).contains v.s)=true;rw [hcon,hk4];rfl
     have hgr:=HG.out.tail (on_k hon);have hner:r'≠[]:=VO;have hln:r'.length<=M:=V0m;have HON:=Hi hon;have HCON:=Hi hcon;have HGR:=Hi hgr;have HNE:=Hi hner;clear hk4 hon hcon hgr hner;go_wp2_with fail
     refine (tok wr bp 0 0 v r' HQ.out).mono ?_;rintro e wa ⟨rfl,aL⟩;have AA:=Hi aL;have hala:=aL.size;clear aL c0 c1 c2 c3 z0 z1 z2 z3 f4 f5 f6;go_wp2_with fail
     refine (tok wa bp 0 0 v r' (HQ.out.below AA.out)).mono ?_;rintro e wb ⟨rfl,hbb⟩;have Ay:=Hi (AA.out.trans (hbb.mono AA.out.size));have halb:=hbb.size;have hin:=in_ (some ⟨w1.heap.size+1,0,none⟩) 1 [[124]] ⟨v.s.toArray⟩ wb (HLr.out.below Ay.out) V2;rw [show ([[124]]:List Bs).contains (ByteArray.mk v.s.toArray).data.toList=true from HCON.out] at hin;have HIN:=Hi hin;clear hbb hin;go_wp2_with fail
     refine HIN.out.mono ?_;rintro e w' ⟨rfl,rfl⟩;go_wp2_with fail
     refine (tok wb bp 0 0 v r' (HQ.out.below Ay.out)).mono ?_;rintro e wc ⟨rfl,hbc⟩;have HBC:=Hi (Ay.out.trans (hbc.mono Ay.out.size));have halc:=hbc.size;clear hbc;go_wp2_with fail
     refine (q2o wc bp v r' (HQ.out.below HBC.out) HNE.out).mono ?_;rintro e wd ⟨rfl,hpd,hud⟩;have HE:=Hi (H wd bp d r' hln hpd HGR.out);have HUD:=Hi ((q01 (bp:=bp) HBC.out).trans hud);have hald:=hud.size;clear hpd hud;go_wp2_with fail
     refine HE.out.mono ?_;rintro e we ⟨k',a',s',m',A',la',bu,B',lb',bA,rfl,hU,hO⟩;obtain ⟨wf,hwf,hbf,-⟩:=aS we #[.int .i64 (k':Int),.string ⟨s'.toArray⟩,.int .u32 (m':Int),.int .i64 (a':Int),.slice A' la' bu,.slice B' lb' bA] 26;have hsf:wf.heap.size=we.heap.size+1:=V0G;have hale:=hU.size;have hUf:UB bp wr wf:=(HUD.out.trans hU).trans (q01 hbf);have hye:=HYr.out.upd (HUD.out.trans hU) (show ¬ w1.heap.size=bp from V0);obtain ⟨⟨g0,g1,g2,g3,g4,g5⟩,x0,x1,x2,x3,x4,x5⟩:=Aa.c6 hye;have hyel:=hye.lt;have HYf:=Hi (HYr.out.upd hUf (show ¬ w1.heap.size=bp from V0));have HXf:=Hi (HXr.out.upd hUf (show ¬ w.heap.size=bp from V0));have HUf:=Hi hUf;have HLf:=Hi (hUf.lies HLr.out fun b o e _ hx=>Vb);have HBF:=Hi hbf;have HWF:=Hi hwf;have HO:=Hi hO;clear hbf hwf hUf hU hO hye HE;go_wp2_with fail
     rw [HWF.out];obtain ⟨wg,hwg,hbg,-⟩:=aS wf #[.int .i64 (k:Int),.string ⟨s.toArray⟩,.int .u32 (m:Int),.int .i64 (a:Int),.slice A la cA,.slice B lb cB,.int .i64 (k':Int),.string ⟨s'.toArray⟩,.int .u32 (m':Int),.int .i64 (a':Int),.slice A' la' bu,.slice B' lb' bA] 26;have hfg:=hbg.size;rw [hwg];refine (node wg 3 a v.s _ 2 2).mono ?_;rintro e wh ⟨rfl,hbh⟩;have hfh:Below wf.heap.size wf wh:=hbg.trans (hbh.mono hbg.size);have hyh:=HYf.out.below hfh HYf.out.lt;obtain ⟨⟨g0,g1,g2,g3,g4,g5⟩,x0,x1,x2,x3,x4,x5⟩:=Aa.c6 hyh;have hyl:=hyh.lt;have hfs:=hfh.size;have HYH:=Hi hyh;have HFH:=Hi hfh;have HWG:=Hi hwg;have HGH:=Hi hbh;clear hyh hfh hwg hbh hbg;go_wp2_with fail
     have hput:Upd (fun b=>b=w1.heap.size) wh (az wh w1.heap.size (.int .i64 3) (.string ⟨v.s.toArray⟩) (.int .u32 0) (.int .i64 (a:Int)) (.slice (some ⟨we.heap.size+1,0,none⟩) 2 2) (.slice none 0 0)):=q09 (X:=fun b=>b=w1.heap.size) (Upd.refl _ _) (fun _=>rfl) _ _ _ _ _ _;have hJ8:LvI w bp d 0 (t :: r) w1.heap.size 3 a v.s 0 (some ⟨we.heap.size+1,0,none⟩) 2 2 none 0 0 (az wh w1.heap.size (.int .i64 3) (.string ⟨v.s.toArray⟩) (.int .u32 0) (.int .i64 (a:Int)) (.slice (some ⟨we.heap.size+1,0,none⟩) 2 2) (.slice none 0 0)):=by
      rcases HO.out with ⟨y,r5,hT5,hR5,hP5,hG5,hr5⟩ | ⟨ba,er,t5,r5,he,hR5,hP5⟩
      ·refine .inl ⟨bin 0 x v.s [y],r5,?_,fun o h=>HRD.out o (r_go HON.out hR5 h),((hP5.below HBF.out).below HFH.out).far hput fun b hb=>V0,hG5,V0n⟩;exact V0J
      ·exact V0f
     exact V0I
   ·have hki:((v.k:Int)==4)=false:=by simp;omega
    have hon:onS 0 v=false:=V0y;exact V0g
  ·exact V0c
theorem lev1{M:Nat}(H:LvQ 2 M)(w:World)(bp d:Nat)(l:List Tk)(hl:l.length<=M)(hp:QS w bp l 0 0)(hg:Gt l) :
  Calls Tryz.prog 88 #[.pointer (some ⟨bp,0,none⟩),.int .i64 1,.int .i64 (d:Int)] w (AU w bp l (Rd ag (.aI 1) d l)):=by
 obtain ⟨w0,hw0,hb0,hB⟩:=q04 w;have hlt:=hp.lt;obtain ⟨t,r,rfl⟩:=hg.cons;obtain ⟨b',o,c,nn,hn,hll,hc,hm,⟨c0,c1,c2,c3⟩,⟨z0,z1,z2,z3⟩,f4,f5,f6⟩:=hp.head;have HE:=Hi (H w0 bp d (t :: r) hl (hp.below hb0) hg);have HB0:=Hi hb0;have HB:=Hi hB;have HW:=Hi hw0;have hbl:=hB.lt;clear hb0 hB hp hw0 hg hn;go_enter Tryz.func88,Tryz.ntmps88;go_wp2_with fail
 rw [HW.out];refine HE.out.mono ?_;rintro e w1 ⟨k,a,s,m,A,la,cA,B,lb,cB,rfl,hU,hO⟩;obtain ⟨w2,hw2,hb2,hbn⟩:=aS w1 #[.int .i64 (k:Int),.string ⟨s.toArray⟩,.int .u32 (m:Int),.int .i64 (a:Int),.slice A la cA,.slice B lb cB] 26;have hs2:w2.heap.size=w1.heap.size+1:=VS;have h01:=hU.size;have Ah:=Hi ((HB.out.upd hU (show ¬ w.heap.size=bp from V0)).below hb2 V0);have HY2:=Hi hbn;have Ai:=Hi (((q01 HB0.out).trans hU).trans (q01 hb2));have HO:=Hi hO;have HB2:=Hi hb2;have HW2:=Hi hw2;clear hU hO hb2 hbn hw2 HE HB c0 c1 c2 c3 z0 z1 z2 z3 f4 f5 f6;go_wp2_with fail
 rw [HW2.out];obtain ⟨w3,hw3⟩:∃ w3,sgW w2 (w1.heap.size+1)=w3:=⟨_,rfl⟩;have hsg:=q77 w2 (w1.heap.size+1);rw [hw3] at hsg;have hb3:=hsg.1;have hL3:Af w3 (some ⟨w1.heap.size+1+1,0,none⟩) (strs [[94]]):=by
  have:=hsg.2.2.1
  rwa [hs2] at this
 unfold sgW at hw3;rw [hw3];have h23:=hb3.size;have hX3:=Ah.out.below hb3 Ah.out.lt;have hY3:=HY2.out.below hb3 HY2.out.lt;have hU3:=Ai.out.trans (q01 hb3);have HJ:Hid (LvI w bp d 1 (t :: r) w1.heap.size k a s m A la cA B lb cB w3):=Hi (by
  rcases HO.out with ⟨x,r',hT,hR,hP,hG,hr⟩ | ⟨ba,er,v,r',he,hR,hP⟩
  ·exact V0d
  ·exact V0k)
 have Aq:=Hi hX3;have HY3:=Hi hY3;have Aw:=Hi hU3;have HL3:=Hi hL3;clear hsg hb3 hL3 hw3 hX3 hY3 hU3 HO Ah HY2 Ai
 go_loopw [] (fun wr=>∃ k a s m A la cA B lb cB,Hid (LvI w bp d 1 (t :: r) w1.heap.size k a s m A la cA B lb cB wr)/\Hid (Aa wr w1.heap.size 26 #[.int .i64 (k:Int),.string ⟨s.toArray⟩,.int .u32 (m:Int),.int .i64 (a:Int),.slice A la cA,.slice B lb cB])/\Hid (Aa wr w.heap.size 26 zNd)/\Hid (UB bp w wr)/\Hid (Af wr (some ⟨w1.heap.size+1+1,0,none⟩) (strs [[94]]))/\w3.heap.size<=wr.heap.size) (fun wr=>meQ wr bp)
 case atStart=>exact ⟨k,a,s,m,A,la,cA,B,lb,cB,HJ,HY3,Aq,Aw,HL3,Nat.le_refl _⟩
 case round=>
  clear HJ HY3 Aq Aw HL3;obtain ⟨k,a,s,m,A,la,cA,B,lb,cB,HJ,HYr,HXr,HUr,HLr,h3r⟩:=hrel;have hylt:=HYr.out.lt;rcases HJ.out with ⟨x,l',hT,hrd,hq,hG,hl'⟩ | ⟨ba,er,v,r',he,hR9,hP9⟩
  ·obtain ⟨v,r',rfl⟩:=hG.cons;obtain ⟨b',o,c,nn,hn,hll,hc,hm,⟨c0,c1,c2,c3⟩,⟨z0,z1,z2,z3⟩,f4,f5,f6⟩:=hq.head;have HT:=Hi hT;have HRD:=Hi hrd;have HQ:=Hi hq;have HG:=Hi hG;have hql:=hq.lt;clear hT hrd hq hG HJ hn;by_cases hk4:v.k = 4
   ·have hki:((v.k:Int)==4)=true:=by simp [hk4]
    cases hcon:[[94]].contains v.s
    ·have hon:onS 1 v=false:=by show (v.k==4 && ([[94]]:List Bs).contains v.s)=false;rw [hcon];simp
     have HON:=Hi hon;have HCON:=Hi hcon;clear hk4 hon hcon;go_wp2_with fail
     refine (tok wr bp 0 0 v r' HQ.out).mono ?_;rintro e wa ⟨rfl,aL⟩;have AA:=Hi aL;have hala:=aL.size;clear aL c0 c1 c2 c3 z0 z1 z2 z3 f4 f5 f6;go_wp2_with fail
     refine (tok wa bp 0 0 v r' (HQ.out.below AA.out)).mono ?_;rintro e wb ⟨rfl,hbb⟩;have Ay:=Hi (AA.out.trans (hbb.mono AA.out.size));have halb:=hbb.size;have hin:=in_ (some ⟨w1.heap.size+1+1,0,none⟩) 1 [[94]] ⟨v.s.toArray⟩ wb (HLr.out.below Ay.out) V2;rw [show ([[94]]:List Bs).contains (ByteArray.mk v.s.toArray).data.toList=false from HCON.out] at hin;exact V0j
    ·have hon:onS 1 v=true:=by show (v.k==4 && ([[94]]:List Bs).contains v.s)=true;rw [hcon,hk4];rfl
     have hgr:=HG.out.tail (on_k hon);have hner:r'≠[]:=VO;have hln:r'.length<=M:=V0m;have HON:=Hi hon;have HCON:=Hi hcon;have HGR:=Hi hgr;have HNE:=Hi hner;clear hk4 hon hcon hgr hner;go_wp2_with fail
     refine (tok wr bp 0 0 v r' HQ.out).mono ?_;rintro e wa ⟨rfl,aL⟩;have AA:=Hi aL;have hala:=aL.size;clear aL c0 c1 c2 c3 z0 z1 z2 z3 f4 f5 f6;go_wp2_with fail
     refine (tok wa bp 0 0 v r' (HQ.out.below AA.out)).mono ?_;rintro e wb ⟨rfl,hbb⟩;have Ay:=Hi (AA.out.trans (hbb.mono AA.out.size));have halb:=hbb.size;have hin:=in_ (some ⟨w1.heap.size+1+1,0,none⟩) 1 [[94]] ⟨v.s.toArray⟩ wb (HLr.out.below Ay.out) V2;rw [show ([[94]]:List Bs).contains (ByteArray.mk v.s.toArray).data.toList=true from HCON.out] at hin;have HIN:=Hi hin;clear hbb hin;go_wp2_with fail
     refine HIN.out.mono ?_;rintro e w' ⟨rfl,rfl⟩;go_wp2_with fail
     refine (tok wb bp 0 0 v r' (HQ.out.below Ay.out)).mono ?_;rintro e wc ⟨rfl,hbc⟩;have HBC:=Hi (Ay.out.trans (hbc.mono Ay.out.size));have halc:=hbc.size;clear hbc;go_wp2_with fail
     refine (q2o wc bp v r' (HQ.out.below HBC.out) HNE.out).mono ?_;rintro e wd ⟨rfl,hpd,hud⟩;have HE:=Hi (H wd bp d r' hln hpd HGR.out);have HUD:=Hi ((q01 (bp:=bp) HBC.out).trans hud);have hald:=hud.size;clear hpd hud;go_wp2_with fail
     refine HE.out.mono ?_;rintro e we ⟨k',a',s',m',A',la',bu,B',lb',bA,rfl,hU,hO⟩;obtain ⟨wf,hwf,hbf,-⟩:=aS we #[.int .i64 (k':Int),.string ⟨s'.toArray⟩,.int .u32 (m':Int),.int .i64 (a':Int),.slice A' la' bu,.slice B' lb' bA] 26;have hsf:wf.heap.size=we.heap.size+1:=V0G;have hale:=hU.size;have hUf:UB bp wr wf:=(HUD.out.trans hU).trans (q01 hbf);have hye:=HYr.out.upd (HUD.out.trans hU) (show ¬ w1.heap.size=bp from V0);obtain ⟨⟨g0,g1,g2,g3,g4,g5⟩,x0,x1,x2,x3,x4,x5⟩:=Aa.c6 hye;have hyel:=hye.lt;have HYf:=Hi (HYr.out.upd hUf (show ¬ w1.heap.size=bp from V0));have HXf:=Hi (HXr.out.upd hUf (show ¬ w.heap.size=bp from V0));have HUf:=Hi hUf;have HLf:=Hi (hUf.lies HLr.out fun b o e _ hx=>Vb);have HBF:=Hi hbf;have HWF:=Hi hwf;have HO:=Hi hO;clear hbf hwf hUf hU hO hye HE;go_wp2_with fail
     rw [HWF.out];obtain ⟨wg,hwg,hbg,-⟩:=aS wf #[.int .i64 (k:Int),.string ⟨s.toArray⟩,.int .u32 (m:Int),.int .i64 (a:Int),.slice A la cA,.slice B lb cB,.int .i64 (k':Int),.string ⟨s'.toArray⟩,.int .u32 (m':Int),.int .i64 (a':Int),.slice A' la' bu,.slice B' lb' bA] 26;have hfg:=hbg.size;rw [hwg];refine (node wg 3 a v.s _ 2 2).mono ?_;rintro e wh ⟨rfl,hbh⟩;have hfh:Below wf.heap.size wf wh:=hbg.trans (hbh.mono hbg.size);have hyh:=HYf.out.below hfh HYf.out.lt;obtain ⟨⟨g0,g1,g2,g3,g4,g5⟩,x0,x1,x2,x3,x4,x5⟩:=Aa.c6 hyh;have hyl:=hyh.lt;have hfs:=hfh.size;have HYH:=Hi hyh;have HFH:=Hi hfh;have HWG:=Hi hwg;have HGH:=Hi hbh;clear hyh hfh hwg hbh hbg;go_wp2_with fail
     have hput:Upd (fun b=>b=w1.heap.size) wh (az wh w1.heap.size (.int .i64 3) (.string ⟨v.s.toArray⟩) (.int .u32 0) (.int .i64 (a:Int)) (.slice (some ⟨we.heap.size+1,0,none⟩) 2 2) (.slice none 0 0)):=q09 (X:=fun b=>b=w1.heap.size) (Upd.refl _ _) (fun _=>rfl) _ _ _ _ _ _;have hJ8:LvI w bp d 1 (t :: r) w1.heap.size 3 a v.s 0 (some ⟨we.heap.size+1,0,none⟩) 2 2 none 0 0 (az wh w1.heap.size (.int .i64 3) (.string ⟨v.s.toArray⟩) (.int .u32 0) (.int .i64 (a:Int)) (.slice (some ⟨we.heap.size+1,0,none⟩) 2 2) (.slice none 0 0)):=by
      rcases HO.out with ⟨y,r5,hT5,hR5,hP5,hG5,hr5⟩ | ⟨ba,er,t5,r5,he,hR5,hP5⟩
      ·refine .inl ⟨bin 1 x v.s [y],r5,?_,fun o h=>HRD.out o (r_go HON.out hR5 h),((hP5.below HBF.out).below HFH.out).far hput fun b hb=>V0,hG5,V0n⟩;exact V0J
      ·exact V0f
     exact V0I
   ·have hki:((v.k:Int)==4)=false:=by simp;omega
    have hon:onS 1 v=false:=V0y;exact V0g
  ·exact V0c
theorem lev2{M:Nat}(H:LvQ 3 M)(w:World)(bp d:Nat)(l:List Tk)(hl:l.length<=M)(hp:QS w bp l 0 0)(hg:Gt l) :
  Calls Tryz.prog 88 #[.pointer (some ⟨bp,0,none⟩),.int .i64 2,.int .i64 (d:Int)] w (AU w bp l (Rd ag (.aI 2) d l)):=by
 obtain ⟨w0,hw0,hb0,hB⟩:=q04 w;have hlt:=hp.lt;obtain ⟨t,r,rfl⟩:=hg.cons;obtain ⟨b',o,c,nn,hn,hll,hc,hm,⟨c0,c1,c2,c3⟩,⟨z0,z1,z2,z3⟩,f4,f5,f6⟩:=hp.head;have HE:=Hi (H w0 bp d (t :: r) hl (hp.below hb0) hg);have HB0:=Hi hb0;have HB:=Hi hB;have HW:=Hi hw0;have hbl:=hB.lt;clear hb0 hB hp hw0 hg hn;go_enter Tryz.func88,Tryz.ntmps88;go_wp2_with fail
 rw [HW.out];refine HE.out.mono ?_;rintro e w1 ⟨k,a,s,m,A,la,cA,B,lb,cB,rfl,hU,hO⟩;obtain ⟨w2,hw2,hb2,hbn⟩:=aS w1 #[.int .i64 (k:Int),.string ⟨s.toArray⟩,.int .u32 (m:Int),.int .i64 (a:Int),.slice A la cA,.slice B lb cB] 26;have hs2:w2.heap.size=w1.heap.size+1:=VS;have h01:=hU.size;have Ah:=Hi ((HB.out.upd hU (show ¬ w.heap.size=bp from V0)).below hb2 V0);have HY2:=Hi hbn;have Ai:=Hi (((q01 HB0.out).trans hU).trans (q01 hb2));have HO:=Hi hO;have HB2:=Hi hb2;have HW2:=Hi hw2;clear hU hO hb2 hbn hw2 HE HB c0 c1 c2 c3 z0 z1 z2 z3 f4 f5 f6;go_wp2_with fail
 rw [HW2.out];obtain ⟨w3,hw3⟩:∃ w3,sgW w2 (w1.heap.size+1)=w3:=⟨_,rfl⟩;have hsg:=q77 w2 (w1.heap.size+1);rw [hw3] at hsg;have hb3:=hsg.1;have hL3:Af w3 (some ⟨w1.heap.size+1+1+1,0,none⟩) (strs [[38]]):=by
  have:=hsg.2.2.2.1
  rwa [hs2] at this
 unfold sgW at hw3;rw [hw3];have h23:=hb3.size;have hX3:=Ah.out.below hb3 Ah.out.lt;have hY3:=HY2.out.below hb3 HY2.out.lt;have hU3:=Ai.out.trans (q01 hb3);have HJ:Hid (LvI w bp d 2 (t :: r) w1.heap.size k a s m A la cA B lb cB w3):=Hi (by
  rcases HO.out with ⟨x,r',hT,hR,hP,hG,hr⟩ | ⟨ba,er,v,r',he,hR,hP⟩
  ·exact V0d
  ·exact V0k)
 have Aq:=Hi hX3;have HY3:=Hi hY3;have Aw:=Hi hU3;have HL3:=Hi hL3;clear hsg hb3 hL3 hw3 hX3 hY3 hU3 HO Ah HY2 Ai
 go_loopw [] (fun wr=>∃ k a s m A la cA B lb cB,Hid (LvI w bp d 2 (t :: r) w1.heap.size k a s m A la cA B lb cB wr)/\Hid (Aa wr w1.heap.size 26 #[.int .i64 (k:Int),.string ⟨s.toArray⟩,.int .u32 (m:Int),.int .i64 (a:Int),.slice A la cA,.slice B lb cB])/\Hid (Aa wr w.heap.size 26 zNd)/\Hid (UB bp w wr)/\Hid (Af wr (some ⟨w1.heap.size+1+1+1,0,none⟩) (strs [[38]]))/\w3.heap.size<=wr.heap.size) (fun wr=>meQ wr bp)
 case atStart=>exact ⟨k,a,s,m,A,la,cA,B,lb,cB,HJ,HY3,Aq,Aw,HL3,Nat.le_refl _⟩
 case round=>
  clear HJ HY3 Aq Aw HL3;obtain ⟨k,a,s,m,A,la,cA,B,lb,cB,HJ,HYr,HXr,HUr,HLr,h3r⟩:=hrel;have hylt:=HYr.out.lt;rcases HJ.out with ⟨x,l',hT,hrd,hq,hG,hl'⟩ | ⟨ba,er,v,r',he,hR9,hP9⟩
  ·obtain ⟨v,r',rfl⟩:=hG.cons;obtain ⟨b',o,c,nn,hn,hll,hc,hm,⟨c0,c1,c2,c3⟩,⟨z0,z1,z2,z3⟩,f4,f5,f6⟩:=hq.head;have HT:=Hi hT;have HRD:=Hi hrd;have HQ:=Hi hq;have HG:=Hi hG;have hql:=hq.lt;clear hT hrd hq hG HJ hn;by_cases hk4:v.k = 4
   ·have hki:((v.k:Int)==4)=true:=by simp [hk4]
    cases hcon:[[38]].contains v.s
    ·have hon:onS 2 v=false:=by show (v.k==4 && ([[38]]:List Bs).contains v.s)=false;rw [hcon];simp
     have HON:=Hi hon;have HCON:=Hi hcon;clear hk4 hon hcon;go_wp2_with fail
     refine (tok wr bp 0 0 v r' HQ.out).mono ?_;rintro e wa ⟨rfl,aL⟩;have AA:=Hi aL;have hala:=aL.size;clear aL c0 c1 c2 c3 z0 z1 z2 z3 f4 f5 f6;go_wp2_with fail
     refine (tok wa bp 0 0 v r' (HQ.out.below AA.out)).mono ?_;rintro e wb ⟨rfl,hbb⟩;have Ay:=Hi (AA.out.trans (hbb.mono AA.out.size));have halb:=hbb.size;have hin:=in_ (some ⟨w1.heap.size+1+1+1,0,none⟩) 1 [[38]] ⟨v.s.toArray⟩ wb (HLr.out.below Ay.out) V2;rw [show ([[38]]:List Bs).contains (ByteArray.mk v.s.toArray).data.toList=false from HCON.out] at hin;exact V0j
    ·have hon:onS 2 v=true:=by show (v.k==4 && ([[38]]:List Bs).contains v.s)=true;rw [hcon,hk4];rfl
     have hgr:=HG.out.tail (on_k hon);have hner:r'≠[]:=VO;have hln:r'.length<=M:=V0m;have HON:=Hi hon;have HCON:=Hi hcon;have HGR:=Hi hgr;have HNE:=Hi hner;clear hk4 hon hcon hgr hner;go_wp2_with fail
     refine (tok wr bp 0 0 v r' HQ.out).mono ?_;rintro e wa ⟨rfl,aL⟩;have AA:=Hi aL;have hala:=aL.size;clear aL c0 c1 c2 c3 z0 z1 z2 z3 f4 f5 f6;go_wp2_with fail
     refine (tok wa bp 0 0 v r' (HQ.out.below AA.out)).mono ?_;rintro e wb ⟨rfl,hbb⟩;have Ay:=Hi (AA.out.trans (hbb.mono AA.out.size));have halb:=hbb.size;have hin:=in_ (some ⟨w1.heap.size+1+1+1,0,none⟩) 1 [[38]] ⟨v.s.toArray⟩ wb (HLr.out.below Ay.out) V2;rw [show ([[38]]:List Bs).contains (ByteArray.mk v.s.toArray).data.toList=true from HCON.out] at hin;have HIN:=Hi hin;clear hbb hin;go_wp2_with fail
     refine HIN.out.mono ?_;rintro e w' ⟨rfl,rfl⟩;go_wp2_with fail
     refine (tok wb bp 0 0 v r' (HQ.out.below Ay.out)).mono ?_;rintro e wc ⟨rfl,hbc⟩;have HBC:=Hi (Ay.out.trans (hbc.mono Ay.out.size));have halc:=hbc.size;clear hbc;go_wp2_with fail
     refine (q2o wc bp v r' (HQ.out.below HBC.out) HNE.out).mono ?_;rintro e wd ⟨rfl,hpd,hud⟩;have HE:=Hi (H wd bp d r' hln hpd HGR.out);have HUD:=Hi ((q01 (bp:=bp) HBC.out).trans hud);have hald:=hud.size;clear hpd hud;go_wp2_with fail
     refine HE.out.mono ?_;rintro e we ⟨k',a',s',m',A',la',bu,B',lb',bA,rfl,hU,hO⟩;obtain ⟨wf,hwf,hbf,-⟩:=aS we #[.int .i64 (k':Int),.string ⟨s'.toArray⟩,.int .u32 (m':Int),.int .i64 (a':Int),.slice A' la' bu,.slice B' lb' bA] 26;have hsf:wf.heap.size=we.heap.size+1:=V0G;have hale:=hU.size;have hUf:UB bp wr wf:=(HUD.out.trans hU).trans (q01 hbf);have hye:=HYr.out.upd (HUD.out.trans hU) (show ¬ w1.heap.size=bp from V0);obtain ⟨⟨g0,g1,g2,g3,g4,g5⟩,x0,x1,x2,x3,x4,x5⟩:=Aa.c6 hye;have hyel:=hye.lt;have HYf:=Hi (HYr.out.upd hUf (show ¬ w1.heap.size=bp from V0));have HXf:=Hi (HXr.out.upd hUf (show ¬ w.heap.size=bp from V0));have HUf:=Hi hUf;have HLf:=Hi (hUf.lies HLr.out fun b o e _ hx=>Vb);have HBF:=Hi hbf;have HWF:=Hi hwf;have HO:=Hi hO;clear hbf hwf hUf hU hO hye HE;go_wp2_with fail
     rw [HWF.out];obtain ⟨wg,hwg,hbg,-⟩:=aS wf #[.int .i64 (k:Int),.string ⟨s.toArray⟩,.int .u32 (m:Int),.int .i64 (a:Int),.slice A la cA,.slice B lb cB,.int .i64 (k':Int),.string ⟨s'.toArray⟩,.int .u32 (m':Int),.int .i64 (a':Int),.slice A' la' bu,.slice B' lb' bA] 26;have hfg:=hbg.size;rw [hwg];refine (node wg 3 a v.s _ 2 2).mono ?_;rintro e wh ⟨rfl,hbh⟩;have hfh:Below wf.heap.size wf wh:=hbg.trans (hbh.mono hbg.size);have hyh:=HYf.out.below hfh HYf.out.lt;obtain ⟨⟨g0,g1,g2,g3,g4,g5⟩,x0,x1,x2,x3,x4,x5⟩:=Aa.c6 hyh;have hyl:=hyh.lt;have hfs:=hfh.size;have HYH:=Hi hyh;have HFH:=Hi hfh;have HWG:=Hi hwg;have HGH:=Hi hbh;clear hyh hfh hwg hbh hbg;go_wp2_with fail
     have hput:Upd (fun b=>b=w1.heap.size) wh (az wh w1.heap.size (.int .i64 3) (.string ⟨v.s.toArray⟩) (.int .u32 0) (.int .i64 (a:Int)) (.slice (some ⟨we.heap.size+1,0,none⟩) 2 2) (.slice none 0 0)):=q09 (X:=fun b=>b=w1.heap.size) (Upd.refl _ _) (fun _=>rfl) _ _ _ _ _ _;have hJ8:LvI w bp d 2 (t :: r) w1.heap.size 3 a v.s 0 (some ⟨we.heap.size+1,0,none⟩) 2 2 none 0 0 (az wh w1.heap.size (.int .i64 3) (.string ⟨v.s.toArray⟩) (.int .u32 0) (.int .i64 (a:Int)) (.slice (some ⟨we.heap.size+1,0,none⟩) 2 2) (.slice none 0 0)):=by
      rcases HO.out with ⟨y,r5,hT5,hR5,hP5,hG5,hr5⟩ | ⟨ba,er,t5,r5,he,hR5,hP5⟩
      ·refine .inl ⟨bin 2 x v.s [y],r5,?_,fun o h=>HRD.out o (r_go HON.out hR5 h),((hP5.below HBF.out).below HFH.out).far hput fun b hb=>V0,hG5,V0n⟩;exact V0J
      ·exact V0f
     exact V0I
   ·have hki:((v.k:Int)==4)=false:=by simp;omega
    have hon:onS 2 v=false:=V0y;exact V0g
  ·exact V0c
theorem lev3{M:Nat}(H:LvQ 4 M)(w:World)(bp d:Nat)(l:List Tk)(hl:l.length<=M)(hp:QS w bp l 0 0)(hg:Gt l) :
  Calls Tryz.prog 88 #[.pointer (some ⟨bp,0,none⟩),.int .i64 3,.int .i64 (d:Int)] w (AU w bp l (Rd ag (.aI 3) d l)):=by
 obtain ⟨w0,hw0,hb0,hB⟩:=q04 w;have hlt:=hp.lt;obtain ⟨t,r,rfl⟩:=hg.cons;obtain ⟨b',o,c,nn,hn,hll,hc,hm,⟨c0,c1,c2,c3⟩,⟨z0,z1,z2,z3⟩,f4,f5,f6⟩:=hp.head;have HE:=Hi (H w0 bp d (t :: r) hl (hp.below hb0) hg);have HB0:=Hi hb0;have HB:=Hi hB;have HW:=Hi hw0;have hbl:=hB.lt;clear hb0 hB hp hw0 hg hn;go_enter Tryz.func88,Tryz.ntmps88;go_wp2_with fail
 rw [HW.out];refine HE.out.mono ?_;rintro e w1 ⟨k,a,s,m,A,la,cA,B,lb,cB,rfl,hU,hO⟩;obtain ⟨w2,hw2,hb2,hbn⟩:=aS w1 #[.int .i64 (k:Int),.string ⟨s.toArray⟩,.int .u32 (m:Int),.int .i64 (a:Int),.slice A la cA,.slice B lb cB] 26;have hs2:w2.heap.size=w1.heap.size+1:=VS;have h01:=hU.size;have Ah:=Hi ((HB.out.upd hU (show ¬ w.heap.size=bp from V0)).below hb2 V0);have HY2:=Hi hbn;have Ai:=Hi (((q01 HB0.out).trans hU).trans (q01 hb2));have HO:=Hi hO;have HB2:=Hi hb2;have HW2:=Hi hw2;clear hU hO hb2 hbn hw2 HE HB c0 c1 c2 c3 z0 z1 z2 z3 f4 f5 f6;go_wp2_with fail
 rw [HW2.out];obtain ⟨w3,hw3⟩:∃ w3,sgW w2 (w1.heap.size+1)=w3:=⟨_,rfl⟩;have hsg:=q77 w2 (w1.heap.size+1);rw [hw3] at hsg;have hb3:=hsg.1;have hL3:Af w3 (some ⟨w1.heap.size+1+1+1+1,0,none⟩) (strs [[60,60],[62,62],[60,60,60]]):=by
  have:=hsg.2.2.2.2.1
  rwa [hs2] at this
 unfold sgW at hw3;rw [hw3];have h23:=hb3.size;have hX3:=Ah.out.below hb3 Ah.out.lt;have hY3:=HY2.out.below hb3 HY2.out.lt;have hU3:=Ai.out.trans (q01 hb3);have HJ:Hid (LvI w bp d 3 (t :: r) w1.heap.size k a s m A la cA B lb cB w3):=Hi (by
  rcases HO.out with ⟨x,r',hT,hR,hP,hG,hr⟩ | ⟨ba,er,v,r',he,hR,hP⟩
  ·exact V0d
  ·exact V0k)
 have Aq:=Hi hX3;have HY3:=Hi hY3;have Aw:=Hi hU3;have HL3:=Hi hL3;clear hsg hb3 hL3 hw3 hX3 hY3 hU3 HO Ah HY2 Ai
 go_loopw [] (fun wr=>∃ k a s m A la cA B lb cB,Hid (LvI w bp d 3 (t :: r) w1.heap.size k a s m A la cA B lb cB wr)/\Hid (Aa wr w1.heap.size 26 #[.int .i64 (k:Int),.string ⟨s.toArray⟩,.int .u32 (m:Int),.int .i64 (a:Int),.slice A la cA,.slice B lb cB])/\Hid (Aa wr w.heap.size 26 zNd)/\Hid (UB bp w wr)/\Hid (Af wr (some ⟨w1.heap.size+1+1+1+1,0,none⟩) (strs [[60,60],[62,62],[60,60,60]]))/\w3.heap.size<=wr.heap.size) (fun wr=>meQ wr bp)
 case atStart=>exact ⟨k,a,s,m,A,la,cA,B,lb,cB,HJ,HY3,Aq,Aw,HL3,Nat.le_refl _⟩
 case round=>
  clear HJ HY3 Aq Aw HL3;obtain ⟨k,a,s,m,A,la,cA,B,lb,cB,HJ,HYr,HXr,HUr,HLr,h3r⟩:=hrel;have hylt:=HYr.out.lt;rcases HJ.out with ⟨x,l',hT,hrd,hq,hG,hl'⟩ | ⟨ba,er,v,r',he,hR9,hP9⟩
  ·obtain ⟨v,r',rfl⟩:=hG.cons;obtain ⟨b',o,c,nn,hn,hll,hc,hm,⟨c0,c1,c2,c3⟩,⟨z0,z1,z2,z3⟩,f4,f5,f6⟩:=hq.head;have HT:=Hi hT;have HRD:=Hi hrd;have HQ:=Hi hq;have HG:=Hi hG;have hql:=hq.lt;clear hT hrd hq hG HJ hn;by_cases hk4:v.k = 4
   ·have hki:((v.k:Int)==4)=true:=by simp [hk4]
    cases hcon:[[60,60],[62,62],[60,60,60]].contains v.s
    ·have hon:onS 3 v=false:=by show (v.k==4 && ([[60,60],[62,62],[60,60,60]]:List Bs).contains v.s)=false;rw [hcon];simp
     have HON:=Hi hon;have HCON:=Hi hcon;clear hk4 hon hcon;go_wp2_with fail
     refine (tok wr bp 0 0 v r' HQ.out).mono ?_;rintro e wa ⟨rfl,aL⟩;have AA:=Hi aL;have hala:=aL.size;clear aL c0 c1 c2 c3 z0 z1 z2 z3 f4 f5 f6;go_wp2_with fail
     refine (tok wa bp 0 0 v r' (HQ.out.below AA.out)).mono ?_;rintro e wb ⟨rfl,hbb⟩;have Ay:=Hi (AA.out.trans (hbb.mono AA.out.size));have halb:=hbb.size;have hin:=in_ (some ⟨w1.heap.size+1+1+1+1,0,none⟩) 3 [[60,60],[62,62],[60,60,60]] ⟨v.s.toArray⟩ wb (HLr.out.below Ay.out) V2;rw [show ([[60,60],[62,62],[60,60,60]]:List Bs).contains (ByteArray.mk v.s.toArray).data.toList=false from HCON.out] at hin;exact V0j
    ·have hon:onS 3 v=true:=by show (v.k==4 && ([[60,60],[62,62],[60,60,60]]:List Bs).contains v.s)=true;rw [hcon,hk4];rfl
     have hgr:=HG.out.tail (on_k hon);have hner:r'≠[]:=VO;have hln:r'.length<=M:=V0m;have HON:=Hi hon;have HCON:=Hi hcon;have HGR:=Hi hgr;have HNE:=Hi hner;clear hk4 hon hcon hgr hner;go_wp2_with fail
     refine (tok wr bp 0 0 v r' HQ.out).mono ?_;rintro e wa ⟨rfl,aL⟩;have AA:=Hi aL;have hala:=aL.size;clear aL c0 c1 c2 c3 z0 z1 z2 z3 f4 f5 f6;go_wp2_with fail
     refine (tok wa bp 0 0 v r' (HQ.out.below AA.out)).mono ?_;rintro e wb ⟨rfl,hbb⟩;have Ay:=Hi (AA.out.trans (hbb.mono AA.out.size));have halb:=hbb.size;have hin:=in_ (some ⟨w1.heap.size+1+1+1+1,0,none⟩) 3 [[60,60],[62,62],[60,60,60]] ⟨v.s.toArray⟩ wb (HLr.out.below Ay.out) V2;rw [show ([[60,60],[62,62],[60,60,60]]:List Bs).contains (ByteArray.mk v.s.toArray).data.toList=true from HCON.out] at hin;have HIN:=Hi hin;clear hbb hin;go_wp2_with fail
     refine HIN.out.mono ?_;rintro e w' ⟨rfl,rfl⟩;go_wp2_with fail
     refine (tok wb bp 0 0 v r' (HQ.out.below Ay.out)).mono ?_;rintro e wc ⟨rfl,hbc⟩;have HBC:=Hi (Ay.out.trans (hbc.mono Ay.out.size));have halc:=hbc.size;clear hbc;go_wp2_with fail
     refine (q2o wc bp v r' (HQ.out.below HBC.out) HNE.out).mono ?_;rintro e wd ⟨rfl,hpd,hud⟩;have HE:=Hi (H wd bp d r' hln hpd HGR.out);have HUD:=Hi ((q01 (bp:=bp) HBC.out).trans hud);have hald:=hud.size;clear hpd hud;go_wp2_with fail
     refine HE.out.mono ?_;rintro e we ⟨k',a',s',m',A',la',bu,B',lb',bA,rfl,hU,hO⟩;obtain ⟨wf,hwf,hbf,-⟩:=aS we #[.int .i64 (k':Int),.string ⟨s'.toArray⟩,.int .u32 (m':Int),.int .i64 (a':Int),.slice A' la' bu,.slice B' lb' bA] 26;have hsf:wf.heap.size=we.heap.size+1:=V0G;have hale:=hU.size;have hUf:UB bp wr wf:=(HUD.out.trans hU).trans (q01 hbf);have hye:=HYr.out.upd (HUD.out.trans hU) (show ¬ w1.heap.size=bp from V0);obtain ⟨⟨g0,g1,g2,g3,g4,g5⟩,x0,x1,x2,x3,x4,x5⟩:=Aa.c6 hye;have hyel:=hye.lt;have HYf:=Hi (HYr.out.upd hUf (show ¬ w1.heap.size=bp from V0));have HXf:=Hi (HXr.out.upd hUf (show ¬ w.heap.size=bp from V0));have HUf:=Hi hUf;have HLf:=Hi (hUf.lies HLr.out fun b o e _ hx=>Vb);have HBF:=Hi hbf;have HWF:=Hi hwf;have HO:=Hi hO;clear hbf hwf hUf hU hO hye HE;go_wp2_with fail
     rw [HWF.out];obtain ⟨wg,hwg,hbg,-⟩:=aS wf #[.int .i64 (k:Int),.string ⟨s.toArray⟩,.int .u32 (m:Int),.int .i64 (a:Int),.slice A la cA,.slice B lb cB,.int .i64 (k':Int),.string ⟨s'.toArray⟩,.int .u32 (m':Int),.int .i64 (a':Int),.slice A' la' bu,.slice B' lb' bA] 26;have hfg:=hbg.size;rw [hwg];refine (node wg 4 a v.s _ 2 2).mono ?_;rintro e wh ⟨rfl,hbh⟩;have hfh:Below wf.heap.size wf wh:=hbg.trans (hbh.mono hbg.size);have hyh:=HYf.out.below hfh HYf.out.lt;obtain ⟨⟨g0,g1,g2,g3,g4,g5⟩,x0,x1,x2,x3,x4,x5⟩:=Aa.c6 hyh;have hyl:=hyh.lt;have hfs:=hfh.size;have HYH:=Hi hyh;have HFH:=Hi hfh;have HWG:=Hi hwg;have HGH:=Hi hbh;clear hyh hfh hwg hbh hbg;go_wp2_with fail
     have hput:Upd (fun b=>b=w1.heap.size) wh (az wh w1.heap.size (.int .i64 4) (.string ⟨v.s.toArray⟩) (.int .u32 0) (.int .i64 (a:Int)) (.slice (some ⟨we.heap.size+1,0,none⟩) 2 2) (.slice none 0 0)):=q09 (X:=fun b=>b=w1.heap.size) (Upd.refl _ _) (fun _=>rfl) _ _ _ _ _ _;have hJ8:LvI w bp d 3 (t :: r) w1.heap.size 4 a v.s 0 (some ⟨we.heap.size+1,0,none⟩) 2 2 none 0 0 (az wh w1.heap.size (.int .i64 4) (.string ⟨v.s.toArray⟩) (.int .u32 0) (.int .i64 (a:Int)) (.slice (some ⟨we.heap.size+1,0,none⟩) 2 2) (.slice none 0 0)):=by
      rcases HO.out with ⟨y,r5,hT5,hR5,hP5,hG5,hr5⟩ | ⟨ba,er,t5,r5,he,hR5,hP5⟩
      ·refine .inl ⟨bin 3 x v.s [y],r5,?_,fun o h=>HRD.out o (r_go HON.out hR5 h),((hP5.below HBF.out).below HFH.out).far hput fun b hb=>V0,hG5,V0n⟩;have hpl:x.place=a:=tIn_at HT.out;have h1:Ak (fun b=>w.heap.size+1<=b/\b≠w1.heap.size) wf x (bG k a s m A la cA B lb cB):=HT.out.upd HUf.out fun b hb e=>V0
       have h2:Ak (fun b=>w.heap.size+1<=b/\b≠w1.heap.size) wf y (bG k' a' s' m' A' la' bu B' lb' bA):=(hT5.mono fun b hb hs=>⟨V0,V0⟩).upd (Upd.of_below HBF.out fun _=>False) (fun _ _ h=>h);have h3:=q8M (e:=26) (N:=fun b=>w.heap.size+1<=b/\b≠w1.heap.size) h1 h2 ⟨V0,V0⟩ 4 a 0 v.s;rw [show wf.alloc (.cells (bG k a s m A la cA B lb cB ++ bG k' a' s' m' A' la' bu B' lb' bA).toArray 26)=wg from HWG.out,hsf] at h3;unfold bin;rw [hpl];exact (h3.upd (Upd.of_below HGH.out fun _=>False) (fun _ _ h=>h)).upd hput fun b hb e=>hb.2 e
      ·exact V0f
     have HJ8:=Hi hJ8;have HY8:=Hi (Aa.az HYH.out (.int .i64 4) (.string ⟨v.s.toArray⟩) (.int .u32 0) (.int .i64 (a:Int)) (.slice (some ⟨we.heap.size+1,0,none⟩) 2 2) (.slice none 0 0));have HX8:=Hi ((HXf.out.below HFH.out HXf.out.lt).upd hput (show ¬ w.heap.size=w1.heap.size from V0));have HU8:=Hi (q09 ((HUr.out.trans HUf.out).trans (q01 HFH.out)) (fun h=>absurd h (show ¬ w1.heap.size < w.heap.size from V0)) (.int .i64 4) (.string ⟨v.s.toArray⟩) (.int .u32 0) (.int .i64 (a:Int)) (.slice (some ⟨we.heap.size+1,0,none⟩) 2 2) (.slice none 0 0));have HL8:=Hi (hput.lies (HLf.out.below HFH.out) fun b o e _ hx=>Vb);have aV:=hput.size;clear hJ8
     go_roundw
     case rel=>exact ⟨4,a,v.s,0,some ⟨we.heap.size+1,0,none⟩,2,2,none,0,0,HJ8,HY8,HX8,HU8,HL8,Nat.le_trans (Nat.le_trans h3r (show wr.heap.size<=wh.heap.size from V0)) aV⟩
     case measure=>
      exact V2x
   ·have hki:((v.k:Int)==4)=false:=by simp;omega
    have hon:onS 3 v=false:=V0y;exact V0g
  ·exact V0c
theorem lev4{M:Nat}(H:LvQ 5 M)(w:World)(bp d:Nat)(l:List Tk)(hl:l.length<=M)(hp:QS w bp l 0 0)(hg:Gt l) :
  Calls Tryz.prog 88 #[.pointer (some ⟨bp,0,none⟩),.int .i64 4,.int .i64 (d:Int)] w (AU w bp l (Rd ag (.aI 4) d l)):=by
 obtain ⟨w0,hw0,hb0,hB⟩:=q04 w;have hlt:=hp.lt;obtain ⟨t,r,rfl⟩:=hg.cons;obtain ⟨b',o,c,nn,hn,hll,hc,hm,⟨c0,c1,c2,c3⟩,⟨z0,z1,z2,z3⟩,f4,f5,f6⟩:=hp.head;have HE:=Hi (H w0 bp d (t :: r) hl (hp.below hb0) hg);have HB0:=Hi hb0;have HB:=Hi hB;have HW:=Hi hw0;have hbl:=hB.lt;clear hb0 hB hp hw0 hg hn;go_enter Tryz.func88,Tryz.ntmps88;go_wp2_with fail
 rw [HW.out];refine HE.out.mono ?_;rintro e w1 ⟨k,a,s,m,A,la,cA,B,lb,cB,rfl,hU,hO⟩;obtain ⟨w2,hw2,hb2,hbn⟩:=aS w1 #[.int .i64 (k:Int),.string ⟨s.toArray⟩,.int .u32 (m:Int),.int .i64 (a:Int),.slice A la cA,.slice B lb cB] 26;have hs2:w2.heap.size=w1.heap.size+1:=VS;have h01:=hU.size;have Ah:=Hi ((HB.out.upd hU (show ¬ w.heap.size=bp from V0)).below hb2 V0);have HY2:=Hi hbn;have Ai:=Hi (((q01 HB0.out).trans hU).trans (q01 hb2));have HO:=Hi hO;have HB2:=Hi hb2;have HW2:=Hi hw2;clear hU hO hb2 hbn hw2 HE HB c0 c1 c2 c3 z0 z1 z2 z3 f4 f5 f6;go_wp2_with fail
 rw [HW2.out];obtain ⟨w3,hw3⟩:∃ w3,sgW w2 (w1.heap.size+1)=w3:=⟨_,rfl⟩;have hsg:=q77 w2 (w1.heap.size+1);rw [hw3] at hsg;have hb3:=hsg.1;have hL3:Af w3 (some ⟨w1.heap.size+1+1+1+1+1,0,none⟩) (strs [[43],[45]]):=by
  have:=hsg.2.2.2.2.2
  rwa [hs2] at this
 unfold sgW at hw3;rw [hw3];have h23:=hb3.size;have hX3:=Ah.out.below hb3 Ah.out.lt;have hY3:=HY2.out.below hb3 HY2.out.lt;have hU3:=Ai.out.trans (q01 hb3);have HJ:Hid (LvI w bp d 4 (t :: r) w1.heap.size k a s m A la cA B lb cB w3):=Hi (by
  rcases HO.out with ⟨x,r',hT,hR,hP,hG,hr⟩ | ⟨ba,er,v,r',he,hR,hP⟩
  ·exact V0d
  ·exact V0k)
 have Aq:=Hi hX3;have HY3:=Hi hY3;have Aw:=Hi hU3;have HL3:=Hi hL3;clear hsg hb3 hL3 hw3 hX3 hY3 hU3 HO Ah HY2 Ai
 go_loopw [] (fun wr=>∃ k a s m A la cA B lb cB,Hid (LvI w bp d 4 (t :: r) w1.heap.size k a s m A la cA B lb cB wr)/\Hid (Aa wr w1.heap.size 26 #[.int .i64 (k:Int),.string ⟨s.toArray⟩,.int .u32 (m:Int),.int .i64 (a:Int),.slice A la cA,.slice B lb cB])/\Hid (Aa wr w.heap.size 26 zNd)/\Hid (UB bp w wr)/\Hid (Af wr (some ⟨w1.heap.size+1+1+1+1+1,0,none⟩) (strs [[43],[45]]))/\w3.heap.size<=wr.heap.size) (fun wr=>meQ wr bp)
 case atStart=>exact ⟨k,a,s,m,A,la,cA,B,lb,cB,HJ,HY3,Aq,Aw,HL3,Nat.le_refl _⟩
 case round=>
  clear HJ HY3 Aq Aw HL3;obtain ⟨k,a,s,m,A,la,cA,B,lb,cB,HJ,HYr,HXr,HUr,HLr,h3r⟩:=hrel;have hylt:=HYr.out.lt;rcases HJ.out with ⟨x,l',hT,hrd,hq,hG,hl'⟩ | ⟨ba,er,v,r',he,hR9,hP9⟩
  ·obtain ⟨v,r',rfl⟩:=hG.cons;obtain ⟨b',o,c,nn,hn,hll,hc,hm,⟨c0,c1,c2,c3⟩,⟨z0,z1,z2,z3⟩,f4,f5,f6⟩:=hq.head;have HT:=Hi hT;have HRD:=Hi hrd;have HQ:=Hi hq;have HG:=Hi hG;have hql:=hq.lt;clear hT hrd hq hG HJ hn;by_cases hk4:v.k = 4
   ·have hki:((v.k:Int)==4)=true:=by simp [hk4]
    cases hcon:[[43],[45]].contains v.s
    ·have hon:onS 4 v=false:=by show (v.k==4 && ([[43],[45]]:List Bs).contains v.s)=false;rw [hcon];simp
     have HON:=Hi hon;have HCON:=Hi hcon;clear hk4 hon hcon;go_wp2_with fail
     refine (tok wr bp 0 0 v r' HQ.out).mono ?_;rintro e wa ⟨rfl,aL⟩;have AA:=Hi aL;have hala:=aL.size;clear aL c0 c1 c2 c3 z0 z1 z2 z3 f4 f5 f6;go_wp2_with fail
     refine (tok wa bp 0 0 v r' (HQ.out.below AA.out)).mono ?_;rintro e wb ⟨rfl,hbb⟩;have Ay:=Hi (AA.out.trans (hbb.mono AA.out.size));have halb:=hbb.size;have hin:=in_ (some ⟨w1.heap.size+1+1+1+1+1,0,none⟩) 2 [[43],[45]] ⟨v.s.toArray⟩ wb (HLr.out.below Ay.out) V2;rw [show ([[43],[45]]:List Bs).contains (ByteArray.mk v.s.toArray).data.toList=false from HCON.out] at hin;exact V0j
    ·have hon:onS 4 v=true:=by show (v.k==4 && ([[43],[45]]:List Bs).contains v.s)=true;rw [hcon,hk4];rfl
     have hgr:=HG.out.tail (on_k hon);have hner:r'≠[]:=VO;have hln:r'.length<=M:=V0m;have HON:=Hi hon;have HCON:=Hi hcon;have HGR:=Hi hgr;have HNE:=Hi hner;clear hk4 hon hcon hgr hner;go_wp2_with fail
     refine (tok wr bp 0 0 v r' HQ.out).mono ?_;rintro e wa ⟨rfl,aL⟩;have AA:=Hi aL;have hala:=aL.size;clear aL c0 c1 c2 c3 z0 z1 z2 z3 f4 f5 f6;go_wp2_with fail
     refine (tok wa bp 0 0 v r' (HQ.out.below AA.out)).mono ?_;rintro e wb ⟨rfl,hbb⟩;have Ay:=Hi (AA.out.trans (hbb.mono AA.out.size));have halb:=hbb.size;have hin:=in_ (some ⟨w1.heap.size+1+1+1+1+1,0,none⟩) 2 [[43],[45]] ⟨v.s.toArray⟩ wb (HLr.out.below Ay.out) V2;rw [show ([[43],[45]]:List Bs).contains (ByteArray.mk v.s.toArray).data.toList=true from HCON.out] at hin;have HIN:=Hi hin;clear hbb hin;go_wp2_with fail
     refine HIN.out.mono ?_;rintro e w' ⟨rfl,rfl⟩;go_wp2_with fail
     refine (tok wb bp 0 0 v r' (HQ.out.below Ay.out)).mono ?_;rintro e wc ⟨rfl,hbc⟩;have HBC:=Hi (Ay.out.trans (hbc.mono Ay.out.size));have halc:=hbc.size;clear hbc;go_wp2_with fail
     refine (q2o wc bp v r' (HQ.out.below HBC.out) HNE.out).mono ?_;rintro e wd ⟨rfl,hpd,hud⟩;have HE:=Hi (H wd bp d r' hln hpd HGR.out);have HUD:=Hi ((q01 (bp:=bp) HBC.out).trans hud);have hald:=hud.size;clear hpd hud;go_wp2_with fail
     refine HE.out.mono ?_;rintro e we ⟨k',a',s',m',A',la',bu,B',lb',bA,rfl,hU,hO⟩;obtain ⟨wf,hwf,hbf,-⟩:=aS we #[.int .i64 (k':Int),.string ⟨s'.toArray⟩,.int .u32 (m':Int),.int .i64 (a':Int),.slice A' la' bu,.slice B' lb' bA] 26;have hsf:wf.heap.size=we.heap.size+1:=V0G;have hale:=hU.size;have hUf:UB bp wr wf:=(HUD.out.trans hU).trans (q01 hbf);have hye:=HYr.out.upd (HUD.out.trans hU) (show ¬ w1.heap.size=bp from V0);obtain ⟨⟨g0,g1,g2,g3,g4,g5⟩,x0,x1,x2,x3,x4,x5⟩:=Aa.c6 hye;have hyel:=hye.lt;have HYf:=Hi (HYr.out.upd hUf (show ¬ w1.heap.size=bp from V0));have HXf:=Hi (HXr.out.upd hUf (show ¬ w.heap.size=bp from V0));have HUf:=Hi hUf;have HLf:=Hi (hUf.lies HLr.out fun b o e _ hx=>Vb);have HBF:=Hi hbf;have HWF:=Hi hwf;have HO:=Hi hO;clear hbf hwf hUf hU hO hye HE;go_wp2_with fail
     rw [HWF.out];obtain ⟨wg,hwg,hbg,-⟩:=aS wf #[.int .i64 (k:Int),.string ⟨s.toArray⟩,.int .u32 (m:Int),.int .i64 (a:Int),.slice A la cA,.slice B lb cB,.int .i64 (k':Int),.string ⟨s'.toArray⟩,.int .u32 (m':Int),.int .i64 (a':Int),.slice A' la' bu,.slice B' lb' bA] 26;have hfg:=hbg.size;rw [hwg];refine (node wg 3 a v.s _ 2 2).mono ?_;rintro e wh ⟨rfl,hbh⟩;have hfh:Below wf.heap.size wf wh:=hbg.trans (hbh.mono hbg.size);have hyh:=HYf.out.below hfh HYf.out.lt;obtain ⟨⟨g0,g1,g2,g3,g4,g5⟩,x0,x1,x2,x3,x4,x5⟩:=Aa.c6 hyh;have hyl:=hyh.lt;have hfs:=hfh.size;have HYH:=Hi hyh;have HFH:=Hi hfh;have HWG:=Hi hwg;have HGH:=Hi hbh;clear hyh hfh hwg hbh hbg;go_wp2_with fail
     have hput:Upd (fun b=>b=w1.heap.size) wh (az wh w1.heap.size (.int .i64 3) (.string ⟨v.s.toArray⟩) (.int .u32 0) (.int .i64 (a:Int)) (.slice (some ⟨we.heap.size+1,0,none⟩) 2 2) (.slice none 0 0)):=q09 (X:=fun b=>b=w1.heap.size) (Upd.refl _ _) (fun _=>rfl) _ _ _ _ _ _;have hJ8:LvI w bp d 4 (t :: r) w1.heap.size 3 a v.s 0 (some ⟨we.heap.size+1,0,none⟩) 2 2 none 0 0 (az wh w1.heap.size (.int .i64 3) (.string ⟨v.s.toArray⟩) (.int .u32 0) (.int .i64 (a:Int)) (.slice (some ⟨we.heap.size+1,0,none⟩) 2 2) (.slice none 0 0)):=by
      rcases HO.out with ⟨y,r5,hT5,hR5,hP5,hG5,hr5⟩ | ⟨ba,er,t5,r5,he,hR5,hP5⟩
      ·refine .inl ⟨bin 4 x v.s [y],r5,?_,fun o h=>HRD.out o (r_go HON.out hR5 h),((hP5.below HBF.out).below HFH.out).far hput fun b hb=>V0,hG5,V0n⟩;exact V0J
      ·exact V0f
     exact V0I
   ·have hki:((v.k:Int)==4)=false:=by simp;omega
    have hon:onS 4 v=false:=V0y;exact V0g
  ·exact V0c
end
end Pq
end Go.Proofs.YtcgibpdjfgjldaaGreatDoor
