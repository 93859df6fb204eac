/- DERIVED. PaSe, PaIn, PaFn, PaLo, PaSs. By an AI agent. -/
import Derived.Test.YtcgibpdjfgjldaaGreatDoorR21
set_option maxRecDepth 100000
set_option maxHeartbeats 8000000
set_option linter.unusedVariables false
set_option linter.unusedSimpArgs false
open Go Go.ChangeShapes Go.WideShapes Go.ChangeAt Go.RowKit
namespace Go.Proofs.YtcgibpdjfgjldaaGreatDoor
namespace Pa
open Lx Args
section
attribute [local go_sem] bH bI bJ
def MuP(w:World)(bp d:Nat)(b:Bs)(t:Tk)(r:List Tk)(e:Ending)(w':World):Prop:=
 (ak b t=true/\e = .returned (.agg #[.int .i64 (t.k:Int),.string ⟨t.s.toArray⟩,.int .i64 (t.at_:Int)])/\PS w' bp r d/\Gt r/\UB bp w w')\/(ak b t=false/\e=panV t.at_ 100/\UB bp w w')
theorem must_(w:World)(bp d:Nat)(t:Tk)(r:List Tk)(b:Bs)(hp:PS w bp (t :: r) d)(hg:Gt (t :: r))(hb:litB b=true) :
  Calls Tryz.prog 173 #[.pointer (some ⟨bp,0,none⟩),.string ⟨b.toArray⟩] w (MuP w bp d b t r):=by
 have he:=q0q hg.hd hb;cases hq:(t.s==b)
 ·exact (must_no w bp d t r b hp hq).mono fun e w' h=>.inr ⟨by rw [he,hq],h.1,h.2⟩
 ·have hk:t.k≠0:=by
   have:=q0A hg.hd (by rw [eq_of_beq hq];exact hb);omega
  have hgr:=hg.tail hk;obtain ⟨t2,r2,hr2⟩:=hgr.cons;exact (must_yes w bp d t r b hp hq Vf).mono fun e w' h=>.inl ⟨by rw [he,hq],h.1,h.2.1,hgr,h.2.2⟩
def NaP(w:World)(bp d:Nat)(t:Tk)(r:List Tk)(e:Ending)(w':World):Prop:=
 (t.k = 1/\e = .returned (.string ⟨t.s.toArray⟩)/\PS w' bp r d/\Gt r/\UB bp w w')\/(t.k≠1/\e=panV t.at_ 100/\UB bp w w')
theorem name_(w:World)(bp d:Nat)(t:Tk)(r:List Tk)(hp:PS w bp (t :: r) d)(hg:Gt (t :: r)) :
  Calls Tryz.prog 174 #[.pointer (some ⟨bp,0,none⟩)] w (NaP w bp d t r):=by
 by_cases hk:t.k = 1
 ·have hgr:=hg.tail V0;obtain ⟨t2,r2,hr2⟩:=hgr.cons;exact (name_yes w bp d t r hp hk Vf).mono fun e w' h=>.inl ⟨hk,h.1,h.2.1,hgr,h.2.2⟩
 ·exact (name_no w bp d t r hp hk).mono fun e w' h=>.inr ⟨hk,h.1,h.2⟩
theorem set_no{num:Bs->Nat×Nat}{k a d:Nat}{t:Tk}{r:List Tk}(ht:t.k≠1):Ev (fun f=>SetK num f k a d (t :: r)) (.bad t.at_ 100):=q0v (q0a _) fun _=>q37 ht _
theorem set_eq{num:Bs->Nat×Nat}{k a d:Nat}{t u:Tk}{r:List Tk}(ht:t.k = 1)(hu:ak [61] u=false):Ev (fun f=>SetK num f k a d (t :: u :: r)) (.bad u.at_ 100):=
 q0v (q0a _) fun _=>(q1q ht _).trans (q1p hu _)
theorem set_fin{num:Bs->Nat×Nat}{k a d:Nat}{t u:Tk}{r:List Tk}{o:Out}(ht:t.k = 1)(hu:ak [61] u=true)(h:Rd num (.fin k a t.s []) d r o):Ev (fun f=>SetK num f k a d (t :: u :: r)) o:=
 q0v h fun _=>(q1q ht _).trans (q0F hu _)
theorem set(k a:Nat)(w:World)(bp d:Nat)(l:List Tk)(hd:d<=60)(hp:PS w bp l d)(hg:Gt l) :
  Calls Tryz.prog 152 #[.pointer (some ⟨bp,0,none⟩),.int .i64 (k:Int),.int .i64 (a:Int)] w (AB w bp d l (fun o=>Ev (fun f=>SetK ag f k a d l) o)):=by
 have hlt:=hp.lt;obtain ⟨t,r,rfl⟩:=hg.cons;obtain ⟨w0,hw0,hb0,hB⟩:=aS w #[.int .i64 0,.string ⟨#[]⟩,.int .u32 0,.int .i64 0,.slice none 0 0,.slice none 0 0] 26;have HN:=Hi (name_ w0 bp d t r (hp.below hb0) hg);have Bc:=Hi (q01 (bp:=bp) hb0);have HB:=Hi hB;have HW:=Hi hw0;have hlb:=hB.lt;clear hb0 hp hw0 hB hg;go_enter Tryz.func152,Tryz.ntmps152;go_wp2_with fail
 rw [HW.out];refine HN.out.mono ?_;rintro e w1 (⟨hk,rfl,hp1,hg1,hu1⟩ | ⟨hk,rfl,hu1⟩);rotate_left
 ·have Aj:=Hi (Bc.out.trans hu1);clear hu1;go_wp2_with fail
  exact ⟨rfl,.inr ⟨_,_,rfl,set_no hk,Aj.out⟩⟩
 obtain ⟨u,r1,rfl⟩:=hg1.cons;have HM:=Hi (must_ w1 bp d u r1 [61] hp1 hg1 V2);have Aj:=Hi (Bc.out.trans hu1);have AP:=Hi (HB.out.upd hu1 V0);have h01:=hu1.size;clear hp1 hg1 hu1;go_wp2_with fail
 refine HM.out.mono ?_;rintro e w2 (⟨hu,rfl,hp2,hg2,hu2⟩ | ⟨hu,rfl,hu2⟩);rotate_left
 ·have Ai:=Hi (Aj.out.trans hu2);clear hu2;go_wp2_with fail
  exact ⟨rfl,.inr ⟨_,_,rfl,set_eq hk hu,Ai.out⟩⟩
 have HE:=Hi (ex r1.length w2 bp d r1 (Nat.le_refl _) hd hp2 hg2);have Ai:=Hi (Aj.out.trans hu2);have Ah:=Hi (AP.out.upd hu2 V0);have h12:=hu2.size;clear hp2 hg2 hu2;go_wp2_with fail
 refine HE.out.mono ?_;rintro e w3 (⟨kx,ax,sx,nx,A,la,cA,B,lb,cB,x,r3,rfl,hT,hR,hP,hG,hr,hU⟩ | ⟨a1,er,rfl,hR,hU⟩);rotate_left
 ·have HR:=Hi (set_fin (k:=k) (a:=a) hk hu (q46 hR));have Aw:=Hi (Ai.out.trans hU);exact V1r
 have h23:=hU.size;obtain ⟨w4,hw4,hb4,-⟩:=aS w3 #[.int .i64 (kx:Int),.string ⟨sx.toArray⟩,.int .u32 (nx:Int),.int .i64 (ax:Int),.slice A la cA,.slice B lb cB] 26;have hT4:Ak (fun b=>w.heap.size+1<=b) w4 (.mk k a t.s 0 [] [x]) (bG k a t.s 0 (some ⟨w3.heap.size,0,none⟩) 1 1 none 0 0):=by
  rw [<-hw4];exact (q6n hT h23 26 k a t.s).up V0
 have HN4:=Hi (node w4 k a t.s (some ⟨w3.heap.size,0,none⟩) 1 1);have Ba:=Hi ((Ah.out.upd hU V0).below hb4 (by have:=(Ah.out.upd hU (show ¬ w.heap.size=bp from V0)).lt;omega));have AO:=Hi ((Ai.out.trans hU).trans (q01 hb4));have HP4:=Hi (hP.below hb4);have HG4:=Hi hG;have HT4:=Hi hT4;have HR:=Hi hR;have HW4:=Hi hw4;clear hT hR hP hG hU hT4 hw4 hb4;go_wp2_with fail
 rw [HW4.out];refine HN4.out.mono ?_;rintro e w5 ⟨rfl,hb5⟩;obtain ⟨v,r4,rfl⟩:=HG4.out.cons;obtain ⟨w6,hw6,hb56,hbn⟩:=aS w5 #[.int .i64 (k:Int),.string ⟨t.s.toArray⟩,.int .u32 0,.int .i64 (a:Int),.slice (some ⟨w3.heap.size,0,none⟩) 1 1,.slice none 0 0] 26;have hb6:Below w4.heap.size w4 w6:=hb5.trans (hb56.mono hb5.size);have h45:=hb5.size;have hx4:=Ba.out.lt;have HM6:=Hi (must_ w6 bp d v r4 [59] (HP4.out.below hb6) HG4.out V2);have HX6:=Hi (Ba.out.below hb6 Ba.out.lt);have HU6:=Hi (AO.out.trans (q01 hb6));have HT6:=Hi (HT4.out.upd (Upd.of_below hb6 fun _=>False) (fun _ _ h=>h));have HBN:=Hi hbn;have HW6:=Hi hw6;have hp4l:=HP4.out.lt;clear hb5 hb56 hb6 hbn hw6;go_wp2_with fail
 rw [HW6.out];refine HM6.out.mono ?_;rintro e w7 (⟨hv,rfl,hp7,hg7,hu7⟩ | ⟨hv,rfl,hu7⟩);rotate_left
 ·have HR7:=Hi (set_fin (k:=k) (a:=a) hk hu (q45 HR.out hv));have HU7:=Hi (HU6.out.trans hu7);clear hu7;go_wp2_with fail
  exact ⟨rfl,.inr ⟨_,_,rfl,HR7.out,HU7.out⟩⟩
 have HR7:=Hi (set_fin (k:=k) (a:=a) hk hu (r_fin HR.out hv));have hX:=HX6.out.upd hu7 (show ¬ w.heap.size=bp from V0);have hY:=HBN.out.upd hu7 (show ¬ w5.heap.size=bp from V0);obtain ⟨⟨e0,e1,e2,e3,e4,e5⟩,z0,z1,z2,z3,z4,z5⟩:=Aa.c6 hX;obtain ⟨⟨g0,g1,g2,g3,g4,g5⟩,y0,y1,y2,y3,y4,y5⟩:=Aa.c6 hY;have HX7:=Hi hX;have HP7:=Hi hp7;have HG7:=Hi hg7;have hlr:r4.length < (t :: u :: r1).length:=V13;have HT7:=Hi (HT6.out.upd hu7 fun b hb e=>V0);have HU7:=Hi (HU6.out.trans hu7);clear hX hY hp7 hg7 hu7;go_wp2_with fail
 exact bodyPost_ret (aH rfl rfl (Aa.az HX7.out _ _ _ _ _ _) rfl) rfl (q0N hlt (Nat.lt_succ_self _) HT7.out HR7.out HP7.out HG7.out hlr HU7.out)
end
section
attribute [local go_sem] bH bI bJ
theorem q58{N:Nat->Prop}{w:World}{k a n la cA:Nat}{s:Bs}{l:List Tr}{A:Option Addr}{B0:Option Addr}{lb cB:Nat}(h:Ak N w (.mk k a s n [] l) (bG k a s n A la cA B0 lb cB)){ps:List Bs}{g c:Nat}(hL:Af w (some ⟨g,0,none⟩) (ps.map ai))(hps:CapOk ps.length c)(hN:N g) :
  Ak N w (.mk k a s n ps l) (bG k a s n A la cA (some ⟨g,0,none⟩) ps.length c):=by
 unfold Ak at h ⊢;obtain ⟨A1,cA1,B1,cB1,h1,h2,_,_,_,h6⟩:=h;unfold bG at h1;simp only [List.cons.injEq,Value.slice.injEq,true_and,and_true] at h1;obtain ⟨⟨rfl,rfl,rfl⟩,_⟩:=h1;exact ⟨_,_,_,_,rfl,h2,hps,hL,fun b o e _=>(by cases e;exact hN),h6⟩
theorem in_bad{k a p:Nat}{r:List Tk}(h:∀ f,aC [] r f=some (.bad p 100)):InK k a r=some (.bad p 100):=h _
theorem in_end{k a:Nat}{r r4:List Tk}{ps:List Bs}{v:Tk}(h:∀ f,aC [] r f=f ps (v :: r4))(hv:ak [59] v=false):InK k a r=some (.bad v.at_ 100):=(h _).trans (q1p hv _)
theorem in_ok{k a:Nat}{r r4:List Tk}{ps:List Bs}{v:Tk}(h:∀ f,aC [] r f=f ps (v :: r4))(hv:ak [59] v=true):InK k a r=some (.ok [.mk k a [] 0 ps []] r4):=(h _).trans (q0F hv _)
theorem inputs(k:Nat)(w:World)(bp d:Nat)(t:Tk)(r:List Tk)(hp:PS w bp (t :: r) d)(hg:Gt (t :: r))(hk:t.k≠0) :
  Calls Tryz.prog 151 #[.pointer (some ⟨bp,0,none⟩),.int .i64 (k:Int)] w (AB w bp d (t :: r) (fun o=>InK k t.at_ r=some o)):=by
 have hlt:=hp.lt;have hgr:=hg.tail hk;obtain ⟨t2,r2,hr2⟩:=hgr.cons;obtain ⟨w0,hw0,hb0,hB⟩:=aS w #[.int .i64 0,.string ⟨#[]⟩,.int .u32 0,.int .i64 0,.slice none 0 0,.slice none 0 0] 26;have HT:=Hi (take w0 bp d t r (hp.below hb0) Vf);have Bc:=Hi (q01 (bp:=bp) hb0);have HB:=Hi hB;have HW:=Hi hw0;have HGR:=Hi hgr;have hlb:=hB.lt;clear hb0 hp hw0 hB hg hr2 hgr hk;go_enter Tryz.func151,Tryz.ntmps151;go_wp2_with fail
 rw [HW.out];refine HT.out.mono ?_;rintro e w1 ⟨rfl,hp1,hu1⟩;have HNO:=Hi (show Calls Tryz.prog 125 #[.int .i64 (k:Int),.string ⟨#[]⟩,.int .i64 (t.at_:Int),.slice none 0 0] w1 _ from node w1 k t.at_ [] none 0 0);have Aj:=Hi (Bc.out.trans hu1);have AP:=Hi (HB.out.upd hu1 V0);have Be:=Hi hp1;have h01:=hu1.size;clear hp1 hu1;go_wp2_with fail
 refine HNO.out.mono ?_;rintro e w2 ⟨rfl,hb2⟩;obtain ⟨w3,hw3,aG,hbn⟩:=aS w2 #[.int .i64 (k:Int),.string ⟨#[]⟩,.int .u32 0,.int .i64 (t.at_:Int),.slice none 0 0,.slice none 0 0] 26;have hb3:Below w1.heap.size w1 w3:=hb2.trans (aG.mono hb2.size);have h12:=hb2.size;have h1p:=Be.out.lt;have HNA:=Hi (names w3 bp d r (Be.out.below hb3) HGR.out);have Aw:=Hi (Aj.out.trans (q01 hb3));have Aq:=Hi (AP.out.below hb3 AP.out.lt);have HBN:=Hi hbn;have HW3:=Hi hw3;clear hb2 aG hb3 hbn hw3;go_wp2_with fail
 rw [HW3.out];refine HNA.out.mono ?_;rintro e w4 (⟨ps,r4,g,c,rfl,hR,hP,hE,hs,hr,hL,hgl,hpl,hU⟩ | ⟨a,rfl,hR,hU⟩);rotate_left
 ·have HR:=Hi (in_bad (k:=k) (a:=t.at_) hR);have AO:=Hi (Aw.out.trans hU);clear hR hU;go_wp2_with fail
  exact ⟨rfl,.inr ⟨_,_,rfl,HR.out,AO.out⟩⟩
 have hg4:=HGR.out.suf hE hs;obtain ⟨v,r5,rfl⟩:=hg4.cons;have hbn3:=HBN.out.lt;have hY4:=HBN.out.upd hU (show ¬ w2.heap.size=bp from V0);obtain ⟨w5,hw5⟩:∃ w5,w4.setCell ⟨w2.heap.size,5,none⟩ (.slice (some ⟨g,0,none⟩) ps.length c)=w5:=⟨_,rfl⟩;have bn:Upd (fun b=>b=w2.heap.size) w4 w5:=by rw [<-hw5];exact (Upd.refl (fun b=>b=w2.heap.size) w4).setCell (fun _=>rfl) _
 have hY5:Aa w5 w2.heap.size 26 #[.int .i64 (k:Int),.string ⟨#[]⟩,.int .u32 0,.int .i64 (t.at_:Int),.slice none 0 0,.slice (some ⟨g,0,none⟩) ps.length c]:=by rw [<-hw5];exact hY4.set 5 _
 have hT5:Ak (fun b=>w.heap.size+1<=b) w5 (.mk k t.at_ [] 0 ps []) (bG k t.at_ [] 0 none 0 0 (some ⟨g,0,none⟩) ps.length c):=q58 (q1S w5 k t.at_ 0 []) (bn.lies hL fun b o e hl e2=>Vb) ⟨V0,V0,V0⟩ V0;obtain ⟨⟨e0,e1,e2,e3,e4,e5⟩,z0,z1,z2,z3,z4,z5⟩:=Aa.c6 hY4;have HM5:=Hi (must_ w5 bp d v r5 [59] (hP.far bn fun b hb=>V0) hg4 V2);have AX:=Hi ((Aq.out.upd hU V0).upd bn V0);have HY5:=Hi hY5;have HT5:=Hi hT5;have HR:=Hi hR;have HW5:=Hi hw5;have AR:Hid (UB bp w w5):=Hi (by rw [<-hw5];exact (Aw.out.trans hU).setCell (fun h=>absurd h (by show ¬ w2.heap.size < w.heap.size;omega)) _);clear hY4 hY5 hT5 bn hw5 hP hE hs hL hU hR hg4;go_wp2_with fail
 rw [HW5.out];refine HM5.out.mono ?_;rintro e w6 (⟨hv,rfl,hp6,hg6,bX⟩ | ⟨hv,rfl,bX⟩);rotate_left
 ·have HR6:=Hi (in_end (k:=k) (a:=t.at_) HR.out hv);have HU6:=Hi (AR.out.trans bX);clear bX;go_wp2_with fail
  exact ⟨rfl,.inr ⟨_,_,rfl,HR6.out,HU6.out⟩⟩
 have HR6:=Hi (in_ok (k:=k) (a:=t.at_) HR.out hv);clear e0 e1 e2 e3 e4 e5 z0 z1 z2 z3 z4 z5;have hX:=AX.out.upd bX (show ¬ w.heap.size=bp from V0);have hY:=HY5.out.upd bX (show ¬ w2.heap.size=bp from V0);obtain ⟨⟨e0,e1,e2,e3,e4,e5⟩,z0,z1,z2,z3,z4,z5⟩:=Aa.c6 hX;obtain ⟨⟨g0,g1,g2,g3,g4,g5⟩,y0,y1,y2,y3,y4,y5⟩:=Aa.c6 hY;have HX6:=Hi hX;have HP6:=Hi hp6;have HG6:=Hi hg6;have hlr:r5.length < (t :: r).length:=V13;have HT6:=Hi (HT5.out.upd bX fun b hb e=>V0);have HU6:=Hi (AR.out.trans bX);clear hX hY hp6 hg6 bX;go_wp2_with fail
 exact bodyPost_ret (aH rfl rfl (Aa.az HX6.out _ _ _ _ _ _) rfl) rfl (q0N hlt (Nat.lt_succ_self _) HT6.out HR6.out HP6.out HG6.out hlr HU6.out)
end
section
attribute [local go_sem] bH bI bJ
section
variable {num : Bs -> Nat × Nat} {a d : Nat} {t u v v2 : Tk} {r r4 r5 : List Tk} {ps : List Bs}
theorem fn1(h1:t.k≠1):Ev (fun f=>FnK num f a d (t :: r)) (.bad t.at_ 100):=q0v (q0a _) fun _=>q37 h1 _
theorem fn2(h1:t.k = 1)(h2:ak [40] u=false):Ev (fun f=>FnK num f a d (t :: u :: r)) (.bad u.at_ 100):=q0v (q0a _) fun _=>(q1q h1 _).trans (q1p h2 _)
theorem fn3{p:Nat}(h1:t.k = 1)(h2:ak [40] u=true)(h3:∀ f,aC [] r f=some (.bad p 100)):Ev (fun f=>FnK num f a d (t :: u :: r)) (.bad p 100):=q0v (q0a _) fun _=>(q1q h1 _).trans ((q0F h2 _).trans (h3 _))
theorem fn4(h1:t.k = 1)(h2:ak [40] u=true)(h3:∀ f,aC [] r f=f ps (v :: r4))(h4:ak [41] v=false):Ev (fun f=>FnK num f a d (t :: u :: r)) (.bad v.at_ 100):=
 q0v (q0a _) fun _=>(q1q h1 _).trans ((q0F h2 _).trans ((h3 _).trans (q1p h4 _)))
theorem fn5(h1:t.k = 1)(h2:ak [40] u=true)(h3:∀ f,aC [] r f=f ps (v :: v2 :: r5))(h4:ak [41] v=true)(h5:ak [61] v2=false):Ev (fun f=>FnK num f a d (t :: u :: r)) (.bad v2.at_ 100):=
 q0v (q0a _) fun _=>(q1q h1 _).trans ((q0F h2 _).trans ((h3 _).trans ((q0F h4 _).trans (q1p h5 _))))
theorem fn6{o:Out}(h1:t.k = 1)(h2:ak [40] u=true)(h3:∀ f,aC [] r f=f ps (v :: v2 :: r5))(h4:ak [41] v=true)(h5:ak [61] v2=true)(h:Rd num (.fin 12 a t.s ps) d r5 o):Ev (fun f=>FnK num f a d (t :: u :: r)) o:=
 q0v h fun _=>(q1q h1 _).trans ((q0F h2 _).trans ((h3 _).trans ((q0F h4 _).trans (q0F h5 _))))
end
theorem function(w:World)(bp d:Nat)(q:Tk)(l:List Tk)(hd:d<=60)(hp:PS w bp (q :: l) d)(hg:Gt (q :: l))(hq:ak [102,110] q=true) :
  Calls Tryz.prog 153 #[.pointer (some ⟨bp,0,none⟩)] w (AB w bp d (q :: l) (fun o=>Ev (fun f=>FnK ag f q.at_ d l) o)):=by
 have hlt:=hp.lt;obtain ⟨w0,hw0,hb0,hB⟩:=aS w #[.int .i64 0,.string ⟨#[]⟩,.int .u32 0,.int .i64 0,.slice none 0 0,.slice none 0 0] 26;have HM0:=Hi (must_ w0 bp d q l [102,110] (hp.below hb0) hg V2);have Bc:=Hi (q01 (bp:=bp) hb0);have HB:=Hi hB;have HW:=Hi hw0;have hlb:=hB.lt;clear hb0 hp hw0 hB hg;go_enter Tryz.func153,Tryz.ntmps153;go_wp2_with fail
 rw [HW.out];refine HM0.out.mono ?_;rintro e wa (⟨hq',rfl,hpa,hga,hua⟩ | ⟨hq',rfl,hua⟩);rotate_left
 ·rw [hq] at hq';cases hq'
 obtain ⟨t,r,rfl⟩:=hga.cons;have HN:=Hi (name_ wa bp d t r hpa hga);have HUa:=Hi (Bc.out.trans hua);have HXa:=Hi (HB.out.upd hua V0);have h0a:=hua.size;clear hpa hga hua hq';go_wp2_with fail
 refine HN.out.mono ?_;rintro e w1 (⟨hk,rfl,hp1,hg1,hu1⟩ | ⟨hk,rfl,hu1⟩);rotate_left
 ·have Aj:=Hi (HUa.out.trans hu1);clear hu1;go_wp2_with fail
  exact ⟨rfl,.inr ⟨_,_,rfl,fn1 hk,Aj.out⟩⟩
 obtain ⟨u,r1,rfl⟩:=hg1.cons;have HM:=Hi (must_ w1 bp d u r1 [40] hp1 hg1 V2);have Aj:=Hi (HUa.out.trans hu1);have AP:=Hi (HXa.out.upd hu1 V0);have h01:=hu1.size;clear hp1 hg1 hu1;go_wp2_with fail
 refine HM.out.mono ?_;rintro e w2 (⟨hu,rfl,hp2,hg2,hu2⟩ | ⟨hu,rfl,hu2⟩);rotate_left
 ·have Ai:=Hi (Aj.out.trans hu2);clear hu2;go_wp2_with fail
  exact ⟨rfl,.inr ⟨_,_,rfl,fn2 hk hu,Ai.out⟩⟩
 have HNA:=Hi (names w2 bp d r1 hp2 hg2);have Ai:=Hi (Aj.out.trans hu2);have Ah:=Hi (AP.out.upd hu2 V0);have HG2:=Hi hg2;have h12:=hu2.size;clear hp2 hg2 hu2;go_wp2_with fail
 refine HNA.out.mono ?_;rintro e w3 (⟨ps,r4,g,c,rfl,hR,hP,hE,hs,hr4,hL,hgl,hpl,hU⟩ | ⟨p,rfl,hR,hU⟩);rotate_left
 ·have HR:=Hi (fn3 (num:=ag) (a:=q.at_) (d:=d) hk hu hR);have Aw:=Hi (Ai.out.trans hU);exact V1r
 have hg3:=HG2.out.suf hE hs;obtain ⟨v,r5,rfl⟩:=hg3.cons;have HM3:=Hi (must_ w3 bp d v r5 [41] hP hg3 V2);have Aw:=Hi (Ai.out.trans hU);have Aq:=Hi (Ah.out.upd hU V0);have HR3:=Hi hR;have HL3:=Hi hL;have h23:=hU.size;clear hP hE hs hL hU hR hg3;go_wp2_with fail
 refine HM3.out.mono ?_;rintro e w4 (⟨hv,rfl,hp4,hg4,aF⟩ | ⟨hv,rfl,aF⟩);rotate_left
 ·have HR:=Hi (fn4 (num:=ag) (a:=q.at_) (d:=d) hk hu HR3.out hv);have AO:=Hi (Aw.out.trans aF);clear aF;go_wp2_with fail
  exact ⟨rfl,.inr ⟨_,_,rfl,HR.out,AO.out⟩⟩
 obtain ⟨v2,r6,rfl⟩:=hg4.cons;have HM4:=Hi (must_ w4 bp d v2 r6 [61] hp4 hg4 V2);have AO:=Hi (Aw.out.trans aF);have Ba:=Hi (Aq.out.upd aF V0);have HL4:=Hi (aF.lies HL3.out fun b o e _ e2=>Vb);have h34:=aF.size;clear hp4 hg4 aF;go_wp2_with fail
 refine HM4.out.mono ?_;rintro e w5 (⟨hv2,rfl,hp5,hg5,bn⟩ | ⟨hv2,rfl,bn⟩);rotate_left
 ·have HR:=Hi (fn5 (num:=ag) (a:=q.at_) (d:=d) hk hu HR3.out hv hv2);have AR:=Hi (AO.out.trans bn);exact V40
 have HE5:=Hi (ex r6.length w5 bp d r6 (Nat.le_refl _) hd hp5 hg5);have AR:=Hi (AO.out.trans bn);have AX:=Hi (Ba.out.upd bn V0);have HL5:=Hi (bn.lies HL4.out fun b o e _ e2=>Vb);have h45:=bn.size;clear hp5 hg5 bn;go_wp2_with fail
 refine HE5.out.mono ?_;rintro e w6 (⟨kx,ax,sx,nx,A,la,cA,B,lb,cB,x,r7,rfl,hT,hR,hP,hG,hr,hU⟩ | ⟨a1,er,rfl,hR,hU⟩);rotate_left
 ·have HR:=Hi (fn6 (a:=q.at_) hk hu HR3.out hv hv2 (q46 hR));have HU6:=Hi (AR.out.trans hU);exact V3Y
 have h56:=hU.size;obtain ⟨w7,hw7,bO,-⟩:=aS w6 #[.int .i64 (kx:Int),.string ⟨sx.toArray⟩,.int .u32 (nx:Int),.int .i64 (ax:Int),.slice A la cA,.slice B lb cB] 26;have hT7:Ak (fun b=>w.heap.size+1<=b) w7 (.mk 12 q.at_ t.s 0 [] [x]) (bG 12 q.at_ t.s 0 (some ⟨w6.heap.size,0,none⟩) 1 1 none 0 0):=by
  rw [<-hw7];exact (q6n hT h56 26 12 q.at_ t.s).up V0
 have hx5:=AX.out.lt;have hL7:Af w7 (some ⟨g,0,none⟩) (ps.map ai):=(hU.trans (q01 bO)).lies HL5.out fun b o e _ e2=>Vb
 have HT7:=Hi (q58 (c:=c) hT7 hL7 ⟨V0,V0,V0⟩ V0);have HN7:=Hi (show Calls Tryz.prog 125 #[.int .i64 12,.string ⟨t.s.toArray⟩,.int .i64 (q.at_:Int),.slice (some ⟨w6.heap.size,0,none⟩) 1 1] w7 _ from node w7 12 q.at_ t.s (some ⟨w6.heap.size,0,none⟩) 1 1);have HX7:=Hi ((AX.out.upd hU V0).below bO V0);have HU7:=Hi ((AR.out.trans hU).trans (q01 bO));have HP7:=Hi (hP.below bO);have HG7:=Hi hG;have HR7:=Hi hR;have HW7:=Hi hw7;clear hT hR hP hG hU hT7 hw7 bO hL7;go_wp2_with fail
 rw [HW7.out];refine HN7.out.mono ?_;rintro e w8 ⟨rfl,hb8⟩;obtain ⟨z,r8,rfl⟩:=HG7.out.cons;obtain ⟨w9,hw9,hb89,hbn⟩:=aS w8 #[.int .i64 12,.string ⟨t.s.toArray⟩,.int .u32 0,.int .i64 (q.at_:Int),.slice (some ⟨w6.heap.size,0,none⟩) 1 1,.slice (some ⟨g,0,none⟩) ps.length c] 26;have hb9:Below w7.heap.size w7 w9:=hb8.trans (hb89.mono hb8.size);have h78:=hb8.size;have hx7:=HX7.out.lt;have HM9:=Hi (must_ w9 bp d z r8 [59] (HP7.out.below hb9) HG7.out V2);have HX9:=Hi (HX7.out.below hb9 HX7.out.lt);have HU9:=Hi (HU7.out.trans (q01 hb9));have HT9:=Hi (HT7.out.upd (Upd.of_below hb9 fun _=>False) (fun _ _ h=>h));have HBN:=Hi hbn;have HW9:=Hi hw9;have hp7l:=HP7.out.lt;clear hb8 hb89 hb9 hbn hw9;go_wp2_with fail
 rw [HW9.out];refine HM9.out.mono ?_;rintro e wz (⟨hz,rfl,hpz,hgz,huz⟩ | ⟨hz,rfl,huz⟩);rotate_left
 ·have HRz:=Hi (fn6 (a:=q.at_) hk hu HR3.out hv hv2 (q45 HR7.out hz));have HUz:=Hi (HU9.out.trans huz);clear huz;go_wp2_with fail
  exact ⟨rfl,.inr ⟨_,_,rfl,HRz.out,HUz.out⟩⟩
 have HRz:=Hi (fn6 (a:=q.at_) hk hu HR3.out hv hv2 (r_fin HR7.out hz));have hX:=HX9.out.upd huz (show ¬ w.heap.size=bp from V0);have hY:=HBN.out.upd huz (show ¬ w8.heap.size=bp from V0);obtain ⟨⟨e0,e1,e2,e3,e4,e5⟩,z0,z1,z2,z3,z4,z5⟩:=Aa.c6 hX;obtain ⟨⟨g0,g1,g2,g3,g4,g5⟩,y0,y1,y2,y3,y4,y5⟩:=Aa.c6 hY;have HXz:=Hi hX;have HPz:=Hi hpz;have HGz:=Hi hgz;have hlr:r8.length < (q :: t :: u :: r1).length:=by simp at hr hr4 ⊢;omega
 have HTz:=Hi (HT9.out.upd huz fun b hb e=>V0);have HUz:=Hi (HU9.out.trans huz);clear hX hY hpz hgz huz;go_wp2_with fail
 exact bodyPost_ret (aH rfl rfl (Aa.az HXz.out _ _ _ _ _ _) rfl) rfl (q0N hlt (Nat.lt_succ_self _) HTz.out HRz.out HPz.out HGz.out hlr HUz.out)
end
section
attribute [local go_sem] bH bI bJ
section
variable {num : Bs -> Nat × Nat} {a d : Nat} {t u v v2 : Tk} {r r4 r5 r6 r7 : List Tk} {x y : Tr} {zs : List Tr}
theorem fo1(h1:t.k≠1):Ev (fun f=>ForK num f a d (t :: r)) (.bad t.at_ 100):=q0v (q0a _) fun _=>q37 h1 _
theorem fo2(h1:t.k = 1)(h2:ak [105,110] u=false):Ev (fun f=>ForK num f a d (t :: u :: r)) (.bad u.at_ 100):=q0v (q0a _) fun _=>(q1q h1 _).trans (q1p h2 _)
def Fo2(num:Bs->Nat×Nat)(f a d:Nat)(s:Bs)(r2:List Tk):OO:=bnd (pF num f (.aI 0) d r2) fun xs r3=>must [46,46] r3 fun r4=>bnd (pF num f (.aI 0) d r4) fun ys r5=>must [123] r5 fun r6=>bnd (pF num f (.aM (xs ++ ys)) d r6) fun zs r7=>some (.ok [.mk 11 a s 0 [] zs] r7)
def Fo3(num:Bs->Nat×Nat)(f a d:Nat)(s:Bs)(xs:List Tr)(r3:List Tk):OO:=must [46,46] r3 fun r4=>bnd (pF num f (.aI 0) d r4) fun ys r5=>must [123] r5 fun r6=>bnd (pF num f (.aM (xs ++ ys)) d r6) fun zs r7=>some (.ok [.mk 11 a s 0 [] zs] r7)
def Fo4(num:Bs->Nat×Nat)(f a d:Nat)(s:Bs)(xs ys:List Tr)(r5:List Tk):OO:=must [123] r5 fun r6=>bnd (pF num f (.aM (xs ++ ys)) d r6) fun zs r7=>some (.ok [.mk 11 a s 0 [] zs] r7)
theorem fo_2{o:Out}(h1:t.k = 1)(h2:ak [105,110] u=true)(h:Ev (fun f=>Fo2 num f a d t.s r) o):Ev (fun f=>ForK num f a d (t :: u :: r)) o:=q0v h fun _=>(q1q h1 _).trans (q0F h2 _)
theorem fo3{p e:Nat}{s:Bs}(h:Rd num (.aI 0) d r (.bad p e)):Ev (fun f=>Fo2 num f a d s r) (.bad p e):=q0X (K:=fun f xs r3=>Fo3 num f a d s xs r3) h
theorem fo_3{o:Out}{s:Bs}{xs:List Tr}(h:Rd num (.aI 0) d r (.ok xs r4))(h2:Ev (fun f=>Fo3 num f a d s xs r4) o):Ev (fun f=>Fo2 num f a d s r) o:=q0x (K:=fun f xs r3=>Fo3 num f a d s xs r3) h h2
theorem fo4{s:Bs}{xs:List Tr}(h:ak [46,46] v=false):Ev (fun f=>Fo3 num f a d s xs (v :: r)) (.bad v.at_ 100):=q0v (q0a _) fun _=>q1p h _
theorem fo5{s:Bs}{xs:List Tr}{p e:Nat}(h:ak [46,46] v=true)(h2:Rd num (.aI 0) d r (.bad p e)):Ev (fun f=>Fo3 num f a d s xs (v :: r)) (.bad p e):=
 q0v (q0X (K:=fun f ys r5=>Fo4 num f a d s xs ys r5) h2) fun _=>q0F h _
theorem fo_4{s:Bs}{xs ys:List Tr}{o:Out}(h:ak [46,46] v=true)(h2:Rd num (.aI 0) d r (.ok ys r5))(h3:Ev (fun f=>Fo4 num f a d s xs ys r5) o):Ev (fun f=>Fo3 num f a d s xs (v :: r)) o:=
 q0v (q0x (K:=fun f ys r5=>Fo4 num f a d s xs ys r5) h2 h3) fun _=>q0F h _
theorem fo6{s:Bs}{xs ys:List Tr}(h:ak [123] v=false):Ev (fun f=>Fo4 num f a d s xs ys (v :: r)) (.bad v.at_ 100):=q0v (q0a _) fun _=>q1p h _
theorem fo7{s:Bs}{xs ys:List Tr}{p e:Nat}(h:ak [123] v=true)(h2:Rd num (.aM (xs ++ ys)) d r (.bad p e)):Ev (fun f=>Fo4 num f a d s xs ys (v :: r)) (.bad p e):=
 q0v (q0X (K:=fun _ zs r7=>some (.ok [.mk 11 a s 0 [] zs] r7)) h2) fun _=>q0F h _
theorem fo8{s:Bs}{xs ys:List Tr}(h:ak [123] v=true)(h2:Rd num (.aM (xs ++ ys)) d r (.ok zs r7)):Ev (fun f=>Fo4 num f a d s xs ys (v :: r)) (.ok [.mk 11 a s 0 [] zs] r7):=
 q0v (q0x (K:=fun _ zs r7=>some (.ok [.mk 11 a s 0 [] zs] r7)) h2 (q0a _)) fun _=>q0F h _
end
def InC(n:Nat):Prop:=∀ (w:World) (bp d:Nat) (l:List Tk),l.length<=n->d<=60->PS w bp l d->Gt l ->
 Calls Tryz.prog 154 #[.pointer (some ⟨bp,0,none⟩)] w (AB w bp d l (Rd ag .inner d l))
theorem q7M{n:Nat}(H:InC n)(w:World)(bp d:Nat)(l:List Tk)(hn:l.length<=n)(hd:d<=60)(hp:PS w bp l d)(hg:Gt l) :
  Calls Tryz.prog 160 #[.pointer (some ⟨bp,0,none⟩),.func (.func 154) #[.pointer (some ⟨bp,0,none⟩)] #[]] w (AB w bp d l (Rd ag .inner (d+1) l)):=by
 rcases Nat.lt_or_ge d 60 with h | h
 ·exact q4a _ w bp d l h hp fun w0 hp0=>H w0 bp (d+1) l hn V0 hp0 hg
 ·obtain rfl:d = 60:=by omega
  obtain ⟨t,r,rfl⟩:=hg.cons;exact (q1O _ w bp t r hp).mono fun e w' h=>.inr ⟨_,_,h.1,q6f V0,h.2⟩
structure FoI(w:World)(bp d n:Nat)(x y:Tr)(r6:List Tk)(zs:List Tr)(l:List Tk)(g c:Nat)(W:World):Prop where
 rd:∀ o,Rd ag (.aM zs) d l o->Rd ag (.aM [x,y]) d r6 o
 ps:PS W bp l d
 gt:Gt l
 lt:l.length<=n
 arr:AY 26 (w.heap.size+1) W g c zs
 few:zs.length+l.length<=4000
 ub:UB bp w W
 res:Aa W w.heap.size 26 #[.int .i64 0,.string ⟨#[]⟩,.int .u32 0,.int .i64 0,.slice none 0 0,.slice none 0 0]
theorem loop{n:Nat}(H:InC n)(w:World)(bp d:Nat)(q:Tk)(l:List Tk)(hn:l.length<=n)(hd:d<=60)(hp:PS w bp (q :: l) d)(hg:Gt (q :: l))(hq:ak [102,111,114] q=true) :
  Calls Tryz.prog 175 #[.pointer (some ⟨bp,0,none⟩)] w (AB w bp d (q :: l) (fun o=>Ev (fun f=>ForK ag f q.at_ d l) o)):=by
 have hlt:=hp.lt;have hfw:=hg.few;simp only [List.length_cons] at hfw;obtain ⟨i0,hi,hz⟩:=Option.map_eq_some_iff.1 infoNd;have hz0:=congrArg (·.1) hz;have hz1:=congrArg (·.2.1) hz;have hz2:=congrArg (·.2.2) hz;have HI:=Hi hi;have HZ0:=Hi hz0;have HZ1:=Hi hz1;have HZ2:=Hi hz2;clear hi hz hz0 hz1 hz2;obtain ⟨w0,hw0,hb0,hB⟩:=aS w #[.int .i64 0,.string ⟨#[]⟩,.int .u32 0,.int .i64 0,.slice none 0 0,.slice none 0 0] 26;have HM0:=Hi (must_ w0 bp d q l [102,111,114] (hp.below hb0) hg V2);have Bc:=Hi (q01 (bp:=bp) hb0);have HB:=Hi hB;have HW:=Hi hw0;have hlb:=hB.lt;clear hb0 hp hw0 hB hg;go_enter Tryz.func175,Tryz.ntmps175;go_wp2_with fail
 rw [HW.out];refine HM0.out.mono ?_;rintro e wa (⟨hq',rfl,hpa,hga,hua⟩ | ⟨hq',rfl,hua⟩);rotate_left
 ·rw [hq] at hq';cases hq'
 obtain ⟨t,r,rfl⟩:=hga.cons;have HN:=Hi (name_ wa bp d t r hpa hga);have HUa:=Hi (Bc.out.trans hua);have HXa:=Hi (HB.out.upd hua V0);have h0a:=hua.size;clear hpa hga hua hq';go_wp2_with fail
 refine HN.out.mono ?_;rintro e w1 (⟨hk,rfl,hp1,hg1,hu1⟩ | ⟨hk,rfl,hu1⟩);rotate_left
 ·have Aj:=Hi (HUa.out.trans hu1);clear hu1;go_wp2_with fail
  exact ⟨rfl,.inr ⟨_,_,rfl,fo1 hk,Aj.out⟩⟩
 obtain ⟨u,r1,rfl⟩:=hg1.cons;have HM:=Hi (must_ w1 bp d u r1 [105,110] hp1 hg1 V2);have Aj:=Hi (HUa.out.trans hu1);have AP:=Hi (HXa.out.upd hu1 V0);have h01:=hu1.size;clear hp1 hg1 hu1;go_wp2_with fail
 refine HM.out.mono ?_;rintro e w2 (⟨hu,rfl,hp2,hg2,hu2⟩ | ⟨hu,rfl,hu2⟩);rotate_left
 ·have Ai:=Hi (Aj.out.trans hu2);clear hu2;go_wp2_with fail
  exact ⟨rfl,.inr ⟨_,_,rfl,fo2 hk hu,Ai.out⟩⟩
 have HE2:=Hi (ex r1.length w2 bp d r1 (Nat.le_refl _) hd hp2 hg2);have Ai:=Hi (Aj.out.trans hu2);have Ah:=Hi (AP.out.upd hu2 V0);have h12:=hu2.size;clear hp2 hg2 hu2;go_wp2_with fail
 refine HE2.out.mono ?_;rintro e w3 (⟨kx,ax,sx,nx,A,la,cA,B,lb,cB,x,r3,rfl,hT,hR,hP,hG,hr3,hU⟩ | ⟨a1,er,rfl,hR,hU⟩);rotate_left
 ·have HR:=Hi (fo_2 (a:=q.at_) hk hu (fo3 hR));have Aw:=Hi (Ai.out.trans hU);exact V1r
 obtain ⟨v,r4,rfl⟩:=hG.cons;have h23:=hU.size;obtain ⟨w4,hw4,hb4,-⟩:=aS w3 #[.int .i64 (kx:Int),.string ⟨sx.toArray⟩,.int .u32 (nx:Int),.int .i64 (ax:Int),.slice A la cA,.slice B lb cB] 26;have hA4:AY 26 (w.heap.size+1) w4 w3.heap.size 1 [x]:=by rw [<-hw4];exact AY.first (hT.up V0) V0
 have HM4:=Hi (must_ w4 bp d v r4 [46,46] (hP.below hb4) hG V2);have hx3:=(Ah.out.upd hU (show ¬ w.heap.size=bp from V0)).lt;have Ba:=Hi ((Ah.out.upd hU V0).below hb4 hx3);have AO:=Hi ((Ai.out.trans hU).trans (q01 hb4));have HA4:=Hi hA4;have HR3:=Hi hR;have HW4:=Hi hw4;have h34:=hb4.size;simp only [List.length_cons] at hr3;clear hT hR hP hG hU hA4 hw4 hb4;go_wp2_with fail
 rw [HW4.out];refine HM4.out.mono ?_;rintro e w5 (⟨hv,rfl,hp5,hg5,bn⟩ | ⟨hv,rfl,bn⟩);rotate_left
 ·have HR:=Hi (fo_2 (a:=q.at_) hk hu (fo_3 HR3.out (fo4 hv)));have AR:=Hi (AO.out.trans bn);exact V40
 have HE5:=Hi (ex r4.length w5 bp d r4 (Nat.le_refl _) hd hp5 hg5);have AR:=Hi (AO.out.trans bn);have AX:=Hi (Ba.out.upd bn V0);have HA5:=Hi (HA4.out.upd bn fun b hb=>V0);have h45:=bn.size;clear hp5 hg5 bn;go_wp2_with fail
 refine HE5.out.mono ?_;rintro e w6 (⟨ky,ay,sy,ny,A',la',bu,B',lb',bA,y,r5,rfl,hT,hR,hP,hG,hr5,hU⟩ | ⟨a1,er,rfl,hR,hU⟩);rotate_left
 ·have HR:=Hi (fo_2 (a:=q.at_) hk hu (fo_3 HR3.out (fo5 hv hR)));have HU6:=Hi (AR.out.trans hU);exact V3Y
 obtain ⟨z,r6,rfl⟩:=hG.cons;obtain ⟨css,how,hts⟩:=HA5.out;have h56:=hU.size;have HOA:=Hi (World.ownsRow.alloc (q0O how hU V0V) (.cells #[.int .i64 (ky:Int),.string ⟨sy.toArray⟩,.int .u32 (ny:Int),.int .i64 (ay:Int),.slice A' la' bu,.slice B' lb' bA] 26));have HLI:=Hi (q06 w6 26 (bG ky ay sy ny A' la' bu B' lb' bA));have HBS:=Hi (show w.heap.size+1<=(w6.alloc (.cells #[.int .i64 (ky:Int),.string ⟨sy.toArray⟩,.int .u32 (ny:Int),.int .i64 (ay:Int),.slice A' la' bu,.slice B' lb' bA] 26)).heap.size from V4);have HOW:=Hi how;have HTS:=Hi hts;have HU56:=Hi hU;have HT6:=Hi hT;have HR6:=Hi hR;have HP6:=Hi hP;have HG6:=Hi hG;have HX6:=Hi (AX.out.upd hU V0);have HU6:=Hi (AR.out.trans hU);simp only [List.length_cons] at hr5;clear how hts hT hR hP hG hU;go_wp2_with (at_builtin;refine q0d rfl _ _ 23 rfl (w.heap.size+1) 26 i0 (.agg #[.int .i64 0,.string ⟨#[]⟩,.int .u32 0,.int .i64 0,.slice none 0 0,.slice none 0 0]) 6 88 Tryz.underlying23 HI.out HZ0.out HZ1.out HZ2.out rfl V2 _ 1 _ rfl HOA.out ⟨w6.heap.size,0,none⟩ 1 1 (bG ky ay sy ny A' la' bu B' lb' bA) rfl rfl HLI.out VN V2 V2 HBS.out V2 ?_;intro g8 c8 w8 hE;have HE8:=Hi hE;clear hE)
 have HST:=Hi (q1D (xs:=[x]) HOW.out HTS.out V0 HU56.out HT6.out HE8.out);have hx6:=HX6.out.lt;have HM8:=Hi (must_ w8 bp d z r6 [123] (HP6.out.far HST.out.2.2 fun b hb=>V0) HG6.out V2);have HX8:=Hi (HX6.out.upd HST.out.2.2 V0);have HU8:=Hi (HST.out.2.1 w V0 AR.out);have HA8:=Hi (show AY 26 (w.heap.size+1) w8 g8 c8 [x,y] from HST.out.1);clear HM HN HM0 HE2 HE5 HM4 HXa HUa AP Aj Ah Ai Ba AO HA4 AX AR HA5 HOA HLI HBS HOW HTS HU56 HT6 HP6 HX6 HU6 HE8 HST HW4;go_wp2_with fail
 refine HM8.out.mono ?_;rintro e w9 (⟨hz,rfl,hp9,hg9,hu9⟩ | ⟨hz,rfl,hu9⟩);rotate_left
 ·have HR:=Hi (fo_2 (a:=q.at_) hk hu (fo_3 HR3.out (fo_4 hv HR6.out (fo6 hz))));have HU9:=Hi (HU8.out.trans hu9);clear hu9;go_wp2_with fail
  exact ⟨rfl,.inr ⟨_,_,rfl,HR.out,HU9.out⟩⟩
 have HJ:Hid (FoI w bp d n x y r6 [x,y] r6 g8 c8 w9):=Hi ⟨fun o h=>h,hp9,hg9,by simp only [List.length_cons] at hn;omega,HA8.out.upd hu9 (fun b hb=>V0),by simp only [List.length_cons] at hfw ⊢;simp only [List.length_nil];omega,HU8.out.trans hu9,HX8.out.upd hu9 V0⟩;have HALL:=Hi (show ∀ o,Ev (fun f=>Fo4 ag f q.at_ d t.s [x] [y] (z :: r6)) o->Ev (fun f=>ForK ag f q.at_ d (t :: u :: r1)) o from fun o h=>fo_2 hk hu (fo_3 HR3.out (fo_4 hv HR6.out h)));have hln:r6.length < (q :: t :: u :: r1).length:=V4;clear hp9 hg9 hu9 HM8 HX8 HU8 HA8 HR3 HR6;go_wp2_with fail
 go_loopw [5] (fun vl wr=>∃ zs l' g c,vl = .slice (some ⟨g,0,none⟩) zs.length c/\Hid (l'.length<=r6.length/\FoI w bp d n x y r6 zs l' g c wr)) (fun _ wr=>lenAt wr bp)
 case atStart=>exact ⟨[x,y],r6,_,_,rfl,Hi ⟨Nat.le_refl _,HJ.out⟩⟩
 case round=>
  clear HJ;obtain ⟨zs,l',g,c,rfl,HH0⟩:=hrel;have hl6:=HH0.out.1;have HH:=Hi HH0.out.2;clear HH0;obtain ⟨t',r',rfl⟩:=HH.out.gt.cons;have his:=is_ wr bp d t' r' [125] HH.out.ps;by_cases hc:(t'.s==[125])=true
  ·rw [hc] at his;have HIS:=Hi his;have hon:ak [125] t'=true:=by rw [q0q HH.out.gt.hd V2];exact hc
   have HM:=Hi fun (w':World) (hb:Below wr.heap.size wr w')=>must_ w' bp d t' r' [125] (HH.out.ps.below hb) HH.out.gt V2
   clear his hc;go_wp2_with fail
   refine HIS.out.mono ?_;rintro e w10 ⟨rfl,df⟩;have HM10:=Hi (HM.out w10 df);have HB10:=Hi df;clear df HM HIS;go_wp2_with fail
   refine HM10.out.mono ?_;rintro e w11 (⟨hz',rfl,hp11,hg11,hu11⟩ | ⟨hz',rfl,hu11⟩);rotate_left
   ·rw [hon] at hz';cases hz'
   have hu11':UB bp wr w11:=(q01 HB10.out).trans hu11;have HNO:=Hi (show Calls Tryz.prog 125 #[.int .i64 11,.string ⟨t.s.toArray⟩,.int .i64 (q.at_:Int),.slice (some ⟨g,0,none⟩) zs.length c] w11 _ from node w11 11 q.at_ t.s (some ⟨g,0,none⟩) zs.length c);have HP11:=Hi hp11;have HG11:=Hi hg11;have HU11:=Hi hu11';have HA11:=Hi (HH.out.arr.upd hu11' fun b hb=>V0);have HX11:=Hi (HH.out.res.upd hu11' V0);clear hp11 hg11 hu11 hu11' HM10;go_wp2_with fail
   refine HNO.out.mono ?_;rintro e w12 ⟨rfl,hb12⟩;have hX:=HX11.out.below hb12 HX11.out.lt;obtain ⟨⟨e0,e1,e2,e3,e4,e5⟩,z0,z1,z2,z3,z4,z5⟩:=Aa.c6 hX;have HX12:=Hi hX;have HB12:=Hi hb12;clear hX hb12;have hfz:=HH.out.few;simp only [List.length_cons] at hl6;have HT12:=Hi (Ak.far (HA11.out.node V0 11 q.at_ 0 t.s) (Upd.of_below HB12.out fun _=>False) (fun _ h=>h.elim));go_wp2_with fail
   exact bodyPost_ret (aH rfl rfl (Aa.az HX12.out _ _ _ _ _ _) rfl) rfl (q0N hlt (Nat.lt_succ_self _) HT12.out (HALL.out _ (fo8 hz (HH.out.rd _ (q2m hon)))) (HP11.out.below HB12.out) HG11.out V0 ((HH.out.ub.trans HU11.out).trans (q01 HB12.out)))
  ·have hc':(t'.s==[125])=false:=by simpa using hc
   rw [hc'] at his;have HIS:=Hi his;have hon:ak [125] t'=false:=by rw [q0q HH.out.gt.hd V2];exact hc'
   have HWI:=Hi fun (w':World) (hb:Below wr.heap.size wr w')=>q7M H w' bp d (t' :: r') HH.out.lt hd (HH.out.ps.below hb) HH.out.gt
   clear his hc hc';go_wp2_with fail
   refine HIS.out.mono ?_;rintro e w10 ⟨rfl,df⟩;have HW10:=Hi (HWI.out w10 df);have HB10:=Hi df;clear df HWI HIS;go_wp2_with fail
   refine HW10.out.mono ?_;rintro e w11 (⟨k',a',s',m',A2,la2,cA2,B2,lb2,cB2,x',r11,rfl,hT,hR,hP,hG,hr,hU⟩ | ⟨a',er,rfl,hR,hU⟩);rotate_left
   ·have HR:=Hi (HALL.out _ (fo7 hz (HH.out.rd _ (q2n hon hR))));have HU11:=Hi ((HH.out.ub.trans (q01 HB10.out)).trans hU);exact V3X
   obtain ⟨css,how,hts⟩:=HH.out.arr;have hu11:UB bp wr w11:=(q01 HB10.out).trans hU;have hT11:Ak (fun b=>wr.heap.size<=b) w11 x' (bG k' a' s' m' A2 la2 cA2 B2 lb2 cB2):=hT.up HB10.out.size;have HOA:=Hi (World.ownsRow.alloc (q0O how hu11 V0V) (.cells #[.int .i64 (k':Int),.string ⟨s'.toArray⟩,.int .u32 (m':Int),.int .i64 (a':Int),.slice A2 la2 cA2,.slice B2 lb2 cB2] 26));have HLI:=Hi (q06 w11 26 (bG k' a' s' m' A2 la2 cA2 B2 lb2 cB2));have hsz:w.heap.size+1<=w11.heap.size:=by have:=HH.out.res.lt;have:=hu11.size;omega
   have HBS:=Hi (show w.heap.size+1<=(w11.alloc (.cells #[.int .i64 (k':Int),.string ⟨s'.toArray⟩,.int .u32 (m':Int),.int .i64 (a':Int),.slice A2 la2 cA2,.slice B2 lb2 cB2] 26)).heap.size from V4);have hfew:=HH.out.few;simp only [List.length_cons] at hfew hl6 hr;have HOW:=Hi how;have HTS:=Hi hts;have HU11:=Hi hu11;have HT11:=Hi hT11;have HR11:=Hi hR;have HP11:=Hi hP;have HG11:=Hi hG;clear how hts hu11 hT11 hT hR hP hG hU hsz;go_wp2_with (at_builtin;refine q0d rfl _ _ 23 rfl (w.heap.size+1) 26 i0 (.agg #[.int .i64 0,.string ⟨#[]⟩,.int .u32 0,.int .i64 0,.slice none 0 0,.slice none 0 0]) 6 88 Tryz.underlying23 HI.out HZ0.out HZ1.out HZ2.out rfl V2 _ zs.length _ rfl HOA.out ⟨w11.heap.size,0,none⟩ 1 1 (bG k' a' s' m' A2 la2 cA2 B2 lb2 cB2) rfl rfl HLI.out VN V6 V0 HBS.out V2 ?_;intro g8 c8 w12 hE;have HE8:=Hi hE;clear hE)
   have HST:=Hi (q1D HOW.out HTS.out V0 HU11.out HT11.out HE8.out);have hgw:=(q0Q HOW.out).1;have HJ8:Hid (FoI w bp d n x y r6 (zs ++ [x']) r11 g8 c8 w12):=Hi ⟨fun o h=>HH.out.rd o (q7E hon HR11.out h),HP11.out.far HST.out.2.2 fun b hb=>V0,HG11.out,by have:=HH.out.lt;simp only [List.length_cons] at this;omega,HST.out.1,V4,HST.out.2.1 w V0 HH.out.ub,(HH.out.res.upd HU11.out V0).upd HST.out.2.2 V0⟩
   go_roundw
   case rel=>exact ⟨zs ++ [x'],r11,g8,c8,V0t,Hi ⟨V0,HJ8.out⟩⟩
   case measure=>
    exact V43
theorem q6s{n:Nat}(H:InC n)(w:World)(bp d:Nat)(t:Tk)(r:List Tk)(hn:r.length<=n)(hd:d<=60)(hp:PS w bp (t :: r) d)(hg:Gt (t :: r))(ht:ak [102,111,114] t=true) :
  Calls Tryz.prog 154 #[.pointer (some ⟨bp,0,none⟩)] w (AB w bp d (t :: r) (Rd ag .inner d (t :: r))):=by
 have hlt:=hp.lt;obtain ⟨w0,hw0,hb0,hB⟩:=aS w #[.int .i64 0,.string ⟨#[]⟩,.int .u32 0,.int .i64 0,.slice none 0 0,.slice none 0 0] 26;have his:=is_ w0 bp d t r [102,111,114] (hp.below hb0);rw [<-q0q hg.hd V2,ht] at his;have HIS:=Hi his;have HLO:=Hi fun (w':World) (hb:Below w0.heap.size w0 w')=>loop H w' bp d t r hn hd ((hp.below hb0).below hb) hg ht
 have Bc:=Hi (q01 (bp:=bp) hb0);have HB:=Hi hB;have HW:=Hi hw0;have HTT:=Hi ht;have hlb:=hB.lt;clear hb0 hp hw0 hB hg ht his;go_enter Tryz.func154,Tryz.ntmps154;go_wp2_with fail
 rw [HW.out];refine HIS.out.mono ?_;rintro e w1 ⟨rfl,hb1⟩;have HL1:=Hi (HLO.out w1 hb1);have HB1:=Hi hb1;have h01:=hb1.size;clear hb1 HLO;go_wp2_with fail
 refine HL1.out.mono ?_;rintro e w2 (⟨k,a,s,m,A,la,cA,B,lb,cB,x,r',rfl,hT,hR,hP,hG,hr,hU⟩ | ⟨a,er,rfl,hR,hU⟩)
 ·have hX:=(HB.out.below HB1.out HB.out.lt).upd hU (show ¬ w.heap.size=bp from V0);obtain ⟨⟨e0,e1,e2,e3,e4,e5⟩,z0,z1,z2,z3,z4,z5⟩:=Aa.c6 hX;have HX:=Hi hX;have HT:=Hi hT;have HR:=Hi (r_for hd HTT.out hR);have HP:=Hi hP;have HG:=Hi hG;have HU:=Hi ((Bc.out.trans (q01 HB1.out)).trans hU);exact VZ
 ·have HR:=Hi (r_for hd HTT.out hR);have HU:=Hi ((Bc.out.trans (q01 HB1.out)).trans hU);exact Vz
theorem q6t(w:World)(bp d:Nat)(t:Tk)(r:List Tk)(hd:d<=60)(hp:PS w bp (t :: r) d)(hg:Gt (t :: r))(ht:ak [102,111,114] t=false) :
  Calls Tryz.prog 154 #[.pointer (some ⟨bp,0,none⟩)] w (AB w bp d (t :: r) (Rd ag .inner d (t :: r))):=by
 have hlt:=hp.lt;obtain ⟨w0,hw0,hb0,hB⟩:=aS w #[.int .i64 0,.string ⟨#[]⟩,.int .u32 0,.int .i64 0,.slice none 0 0,.slice none 0 0] 26;have his:=is_ w0 bp d t r [102,111,114] (hp.below hb0);rw [<-q0q hg.hd V2,ht] at his;have HIS:=Hi his;have HNX:=Hi fun (w':World) (hb:Below w0.heap.size w0 w')=>next w' bp d t r ((hp.below hb0).below hb)
 have HSE:=Hi fun (w':World) (hb:Below w0.heap.size w0 w')=>set 10 t.at_ w' bp d (t :: r) hd ((hp.below hb0).below hb) hg
 have Bc:=Hi (q01 (bp:=bp) hb0);have HB:=Hi hB;have HW:=Hi hw0;have HTT:=Hi ht;have hlb:=hB.lt;clear hb0 hp hw0 hB hg ht his;go_enter Tryz.func154,Tryz.ntmps154;go_wp2_with fail
 rw [HW.out];refine HIS.out.mono ?_;rintro e wx ⟨rfl,hbx⟩;have HN1:=Hi (HNX.out wx hbx);have HBX:=Hi hbx;clear hbx HNX;go_wp2_with fail
 refine HN1.out.mono ?_;rintro e w1 ⟨rfl,hb1⟩;have hb1':=HBX.out.trans (hb1.mono HBX.out.size);have HL1:=Hi (show Calls Tryz.prog 152 #[.pointer (some ⟨bp,0,none⟩),.int .i64 10,.int .i64 (t.at_:Int)] w1 _ from HSE.out w1 hb1');have HB1:=Hi hb1';have h01:=hb1'.size;clear hb1 hb1' HSE;go_wp2_with fail
 refine HL1.out.mono ?_;rintro e w2 (⟨k,a,s,m,A,la,cA,B,lb,cB,x,r',rfl,hT,hR,hP,hG,hr,hU⟩ | ⟨a,er,rfl,hR,hU⟩)
 ·have hX:=(HB.out.below HB1.out HB.out.lt).upd hU (show ¬ w.heap.size=bp from V0);obtain ⟨⟨e0,e1,e2,e3,e4,e5⟩,z0,z1,z2,z3,z4,z5⟩:=Aa.c6 hX;have HX:=Hi hX;have HT:=Hi hT;have HR:=Hi (r_let hd HTT.out hR);have HP:=Hi hP;have HG:=Hi hG;have HU:=Hi ((Bc.out.trans (q01 HB1.out)).trans hU);exact VZ
 ·have HR:=Hi (r_let hd HTT.out hR);have HU:=Hi ((Bc.out.trans (q01 HB1.out)).trans hU);exact Vz
theorem aT:∀ n,InC n
 | 0=>fun w bp d l hl _ _ hg=>by
  exact V0R
 | n+1=>fun w bp d l hl hd hp hg=>by
  obtain ⟨t,r,rfl⟩:=hg.cons;simp only [List.length_cons] at hl;cases ht:ak [102,111,114] t
  ·exact q6t w bp d t r hd hp hg ht
  ·exact q6s (aT n) w bp d t r V0 hd hp hg ht
end
section
attribute [local go_sem] bH bI bJ
theorem q59{num:Bs->Nat×Nat}{d:Nat}{t:Tk}{r:List Tk}{o:Out}(hs:t.s=[115,101,99,114,101,116])(hk:2 < t.k)(h:InK 6 t.at_ r=some o):Rd num .stmt d (t :: r) o:=by
 refine q0j (K:=fun f=>InK 6 t.at_ r) (by rw [h];exact q0a _) fun f=>?_
 have hi:∀ b,ak b t=(t.s==b):=fun b=>V0u
 rw [st_];rw [if_pos (show ak [115,101,99,114,101,116] t=true from Vj)]
theorem q5a{num:Bs->Nat×Nat}{d:Nat}{t:Tk}{r:List Tk}{o:Out}(hs:t.s=[112,117,98,108,105,99])(hk:2 < t.k)(h:InK 7 t.at_ r=some o):Rd num .stmt d (t :: r) o:=by
 refine q0j (K:=fun f=>InK 7 t.at_ r) (by rw [h];exact q0a _) fun f=>?_
 have hi:∀ b,ak b t=(t.s==b):=fun b=>V0u
 rw [st_];rw [if_neg (show ¬ ak [115,101,99,114,101,116] t=true from Vj)];rw [if_pos (show ak [112,117,98,108,105,99] t=true from Vj)]
theorem r_out{num:Bs->Nat×Nat}{d:Nat}{t:Tk}{r:List Tk}{o:Out}(hs:t.s=[111,117,116])(hk:2 < t.k)(h:Ev (fun f=>SetK num f 8 t.at_ d r) o):Rd num .stmt d (t :: r) o:=by
 refine q0j (K:=fun f=>SetK num f 8 t.at_ d r) h fun f=>?_
 have hi:∀ b,ak b t=(t.s==b):=fun b=>V0u
 rw [st_];rw [if_neg (show ¬ ak [115,101,99,114,101,116] t=true from Vj)];rw [if_neg (show ¬ ak [112,117,98,108,105,99] t=true from Vj)];rw [if_pos (show ak [111,117,116] t=true from Vj)]
theorem q8x{num:Bs->Nat×Nat}{d:Nat}{t:Tk}{r:List Tk}{o:Out}(hs:t.s=[115,104,111,119])(hk:2 < t.k)(h:Ev (fun f=>SetK num f 9 t.at_ d r) o):Rd num .stmt d (t :: r) o:=by
 refine q0j (K:=fun f=>SetK num f 9 t.at_ d r) h fun f=>?_
 have hi:∀ b,ak b t=(t.s==b):=fun b=>V0u
 rw [st_];rw [if_neg (show ¬ ak [115,101,99,114,101,116] t=true from Vj)];rw [if_neg (show ¬ ak [112,117,98,108,105,99] t=true from Vj)];rw [if_neg (show ¬ ak [111,117,116] t=true from Vj)];rw [if_pos (show ak [115,104,111,119] t=true from Vj)]
theorem r_fn{num:Bs->Nat×Nat}{d:Nat}{t:Tk}{r:List Tk}{o:Out}(hs:t.s=[102,110])(hk:2 < t.k)(h:Ev (fun f=>FnK num f t.at_ d r) o):Rd num .stmt d (t :: r) o:=by
 refine q0j (K:=fun f=>FnK num f t.at_ d r) h fun f=>?_
 have hi:∀ b,ak b t=(t.s==b):=fun b=>V0u
 rw [st_];rw [if_neg (show ¬ ak [115,101,99,114,101,116] t=true from Vj)];rw [if_neg (show ¬ ak [112,117,98,108,105,99] t=true from Vj)];rw [if_neg (show ¬ ak [111,117,116] t=true from Vj)];rw [if_neg (show ¬ ak [115,104,111,119] t=true from Vj)];rw [if_pos (show ak [102,110] t=true from Vj)]
theorem q6u{num:Bs->Nat×Nat}{d:Nat}{t:Tk}{r:List Tk}{o:Out}(h0:ak [115,101,99,114,101,116] t=false)(h1:ak [112,117,98,108,105,99] t=false)(h2:ak [111,117,116] t=false)(h3:ak [115,104,111,119] t=false)(h4:ak [102,110] t=false)(h:Rd num .inner 0 (t :: r) o):Rd num .stmt d (t :: r) o:=
 q0j h fun f=>by
  rw [st_,if_neg (by rw [h0];decide),if_neg (by rw [h1];decide),if_neg (by rw [h2];decide),if_neg (by rw [h3];decide),if_neg (by rw [h4];decide)]
theorem st_secret(w:World)(bp:Nat)(t:Tk)(r:List Tk)(hp:PS w bp (t :: r) 0)(hg:Gt (t :: r))(hs:t.s=[115,101,99,114,101,116]) :
  Calls Tryz.prog 124 #[.pointer (some ⟨bp,0,none⟩)] w (AB w bp 0 (t :: r) (Rd ag .stmt 0 (t :: r))):=by
 have hlt:=hp.lt;obtain ⟨w0,hw0,hb0,hB⟩:=aS w #[.int .i64 0,.string ⟨#[]⟩,.int .u32 0,.int .i64 0,.slice none 0 0,.slice none 0 0] 26;have hk:2 < t.k:=q0A hg.hd V0E;have hn:=next w0 bp 0 t r (hp.below hb0);rw [hs] at hn;have HN:=Hi hn;have HSE:=Hi fun (w':World) (hb:Below w0.heap.size w0 w')=>(show Calls Tryz.prog 151 #[.pointer (some ⟨bp,0,none⟩),.int .i64 6] w' _ from inputs 6 w' bp 0 t r ((hp.below hb0).below hb) hg V0)
 have Bc:=Hi (q01 (bp:=bp) hb0);have HB:=Hi hB;have HW:=Hi hw0;have hlb:=hB.lt;clear hb0 hp hw0 hB hg hn;go_enter Tryz.func124,Tryz.ntmps124;go_wp2_with fail
 rw [HW.out];refine HN.out.mono ?_;rintro e w1 ⟨rfl,hb1⟩;have HL1:=Hi (HSE.out w1 hb1);have Aj:=Hi (Bc.out.trans (q01 hb1));have AP:=Hi (HB.out.below hb1 HB.out.lt);have h01:=hb1.size;clear hb1 HSE;go_wp2_with fail
 refine HL1.out.mono ?_;rintro e w2 (⟨k,a,s,m,A,la,cA,B,lb,cB,x,r',rfl,hT,hR,hP,hG,hr,hU⟩ | ⟨a,er,rfl,hR,hU⟩)
 ·have hX:=AP.out.upd hU (show ¬ w.heap.size=bp from V0);obtain ⟨⟨e0,e1,e2,e3,e4,e5⟩,z0,z1,z2,z3,z4,z5⟩:=Aa.c6 hX;have HX:=Hi hX;have HT:=Hi hT;have HR:=Hi (q59 (num:=ag) (d:=0) hs hk hR);have HP:=Hi hP;have HG:=Hi hG;have HU:=Hi (Aj.out.trans hU);exact VZ
 ·have HR:=Hi (q59 (num:=ag) (d:=0) hs hk hR);have HU:=Hi (Aj.out.trans hU);exact Vz
theorem st_public(w:World)(bp:Nat)(t:Tk)(r:List Tk)(hp:PS w bp (t :: r) 0)(hg:Gt (t :: r))(hs:t.s=[112,117,98,108,105,99]) :
  Calls Tryz.prog 124 #[.pointer (some ⟨bp,0,none⟩)] w (AB w bp 0 (t :: r) (Rd ag .stmt 0 (t :: r))):=by
 have hlt:=hp.lt;obtain ⟨w0,hw0,hb0,hB⟩:=aS w #[.int .i64 0,.string ⟨#[]⟩,.int .u32 0,.int .i64 0,.slice none 0 0,.slice none 0 0] 26;have hk:2 < t.k:=q0A hg.hd V0E;have hn:=next w0 bp 0 t r (hp.below hb0);rw [hs] at hn;have HN:=Hi hn;have HSE:=Hi fun (w':World) (hb:Below w0.heap.size w0 w')=>(show Calls Tryz.prog 151 #[.pointer (some ⟨bp,0,none⟩),.int .i64 7] w' _ from inputs 7 w' bp 0 t r ((hp.below hb0).below hb) hg V0)
 have Bc:=Hi (q01 (bp:=bp) hb0);have HB:=Hi hB;have HW:=Hi hw0;have hlb:=hB.lt;clear hb0 hp hw0 hB hg hn;go_enter Tryz.func124,Tryz.ntmps124;go_wp2_with fail
 rw [HW.out];refine HN.out.mono ?_;rintro e w1 ⟨rfl,hb1⟩;have HL1:=Hi (HSE.out w1 hb1);have Aj:=Hi (Bc.out.trans (q01 hb1));have AP:=Hi (HB.out.below hb1 HB.out.lt);have h01:=hb1.size;clear hb1 HSE;go_wp2_with fail
 refine HL1.out.mono ?_;rintro e w2 (⟨k,a,s,m,A,la,cA,B,lb,cB,x,r',rfl,hT,hR,hP,hG,hr,hU⟩ | ⟨a,er,rfl,hR,hU⟩)
 ·have hX:=AP.out.upd hU (show ¬ w.heap.size=bp from V0);obtain ⟨⟨e0,e1,e2,e3,e4,e5⟩,z0,z1,z2,z3,z4,z5⟩:=Aa.c6 hX;have HX:=Hi hX;have HT:=Hi hT;have HR:=Hi (q5a (num:=ag) (d:=0) hs hk hR);have HP:=Hi hP;have HG:=Hi hG;have HU:=Hi (Aj.out.trans hU);exact VZ
 ·have HR:=Hi (q5a (num:=ag) (d:=0) hs hk hR);have HU:=Hi (Aj.out.trans hU);exact Vz
theorem st_out(w:World)(bp:Nat)(t:Tk)(r:List Tk)(hp:PS w bp (t :: r) 0)(hg:Gt (t :: r))(hs:t.s=[111,117,116]) :
  Calls Tryz.prog 124 #[.pointer (some ⟨bp,0,none⟩)] w (AB w bp 0 (t :: r) (Rd ag .stmt 0 (t :: r))):=by
 have hlt:=hp.lt;obtain ⟨w0,hw0,hb0,hB⟩:=aS w #[.int .i64 0,.string ⟨#[]⟩,.int .u32 0,.int .i64 0,.slice none 0 0,.slice none 0 0] 26;have hk:2 < t.k:=q0A hg.hd V0E;have hn:=next w0 bp 0 t r (hp.below hb0);rw [hs] at hn;have HN:=Hi hn;have hgr:=hg.tail V0;obtain ⟨t2,r2,hr2⟩:=hgr.cons;have htk:=fun (w':World) (hb:Below w0.heap.size w0 w')=>take w' bp 0 t r ((hp.below hb0).below hb) Vf
 have HTK:=Hi htk;have HSE:=Hi fun (w':World) (h:PS w' bp r 0)=>(show Calls Tryz.prog 152 #[.pointer (some ⟨bp,0,none⟩),.int .i64 8,.int .i64 (t.at_:Int)] w' _ from set 8 t.at_ w' bp 0 r V0 h hgr)
 have Bc:=Hi (q01 (bp:=bp) hb0);have HB:=Hi hB;have HW:=Hi hw0;have hlb:=hB.lt;clear hb0 hp hw0 hB hg hn htk hgr hr2;go_enter Tryz.func124,Tryz.ntmps124;go_wp2_with fail
 rw [HW.out];refine HN.out.mono ?_;rintro e wx ⟨rfl,hbx⟩;have HT1:=Hi (HTK.out wx hbx);have HUx:=Hi (Bc.out.trans (q01 hbx));have HXx:=Hi (HB.out.below hbx HB.out.lt);have h0x:=hbx.size;clear hbx HTK;go_wp2_with fail
 refine HT1.out.mono ?_;rintro e w1 ⟨rfl,hp1,hu1⟩;have HL1:=Hi (HSE.out w1 hp1);have Aj:=Hi (HUx.out.trans hu1);have AP:=Hi (HXx.out.upd hu1 V0);have h01:=hu1.size;clear hp1 hu1 HSE;go_wp2_with fail
 refine HL1.out.mono ?_;rintro e w2 (⟨k,a,s,m,A,la,cA,B,lb,cB,x,r',rfl,hT,hR,hP,hG,hr,hU⟩ | ⟨a,er,rfl,hR,hU⟩)
 ·have hX:=AP.out.upd hU (show ¬ w.heap.size=bp from V0);obtain ⟨⟨e0,e1,e2,e3,e4,e5⟩,z0,z1,z2,z3,z4,z5⟩:=Aa.c6 hX;have HX:=Hi hX;have HT:=Hi hT;have HR:=Hi (r_out (num:=ag) (d:=0) hs hk hR);have HP:=Hi hP;have HG:=Hi hG;have HU:=Hi (Aj.out.trans hU);exact V2I
 ·have HR:=Hi (r_out (num:=ag) (d:=0) hs hk hR);have HU:=Hi (Aj.out.trans hU);exact Vz
theorem st_show(w:World)(bp:Nat)(t:Tk)(r:List Tk)(hp:PS w bp (t :: r) 0)(hg:Gt (t :: r))(hs:t.s=[115,104,111,119]) :
  Calls Tryz.prog 124 #[.pointer (some ⟨bp,0,none⟩)] w (AB w bp 0 (t :: r) (Rd ag .stmt 0 (t :: r))):=by
 have hlt:=hp.lt;obtain ⟨w0,hw0,hb0,hB⟩:=aS w #[.int .i64 0,.string ⟨#[]⟩,.int .u32 0,.int .i64 0,.slice none 0 0,.slice none 0 0] 26;have hk:2 < t.k:=q0A hg.hd V0E;have hn:=next w0 bp 0 t r (hp.below hb0);rw [hs] at hn;have HN:=Hi hn;have hgr:=hg.tail V0;obtain ⟨t2,r2,hr2⟩:=hgr.cons;have htk:=fun (w':World) (hb:Below w0.heap.size w0 w')=>take w' bp 0 t r ((hp.below hb0).below hb) Vf
 have HTK:=Hi htk;have HSE:=Hi fun (w':World) (h:PS w' bp r 0)=>(show Calls Tryz.prog 152 #[.pointer (some ⟨bp,0,none⟩),.int .i64 9,.int .i64 (t.at_:Int)] w' _ from set 9 t.at_ w' bp 0 r V0 h hgr)
 have Bc:=Hi (q01 (bp:=bp) hb0);have HB:=Hi hB;have HW:=Hi hw0;have hlb:=hB.lt;clear hb0 hp hw0 hB hg hn htk hgr hr2;go_enter Tryz.func124,Tryz.ntmps124;go_wp2_with fail
 rw [HW.out];refine HN.out.mono ?_;rintro e wx ⟨rfl,hbx⟩;have HT1:=Hi (HTK.out wx hbx);have HUx:=Hi (Bc.out.trans (q01 hbx));have HXx:=Hi (HB.out.below hbx HB.out.lt);have h0x:=hbx.size;clear hbx HTK;go_wp2_with fail
 refine HT1.out.mono ?_;rintro e w1 ⟨rfl,hp1,hu1⟩;have HL1:=Hi (HSE.out w1 hp1);have Aj:=Hi (HUx.out.trans hu1);have AP:=Hi (HXx.out.upd hu1 V0);have h01:=hu1.size;clear hp1 hu1 HSE;go_wp2_with fail
 refine HL1.out.mono ?_;rintro e w2 (⟨k,a,s,m,A,la,cA,B,lb,cB,x,r',rfl,hT,hR,hP,hG,hr,hU⟩ | ⟨a,er,rfl,hR,hU⟩)
 ·have hX:=AP.out.upd hU (show ¬ w.heap.size=bp from V0);obtain ⟨⟨e0,e1,e2,e3,e4,e5⟩,z0,z1,z2,z3,z4,z5⟩:=Aa.c6 hX;have HX:=Hi hX;have HT:=Hi hT;have HR:=Hi (q8x (num:=ag) (d:=0) hs hk hR);have HP:=Hi hP;have HG:=Hi hG;have HU:=Hi (Aj.out.trans hU);exact V2I
 ·have HR:=Hi (q8x (num:=ag) (d:=0) hs hk hR);have HU:=Hi (Aj.out.trans hU);exact Vz
theorem st_fn(w:World)(bp:Nat)(t:Tk)(r:List Tk)(hp:PS w bp (t :: r) 0)(hg:Gt (t :: r))(hs:t.s=[102,110]) :
  Calls Tryz.prog 124 #[.pointer (some ⟨bp,0,none⟩)] w (AB w bp 0 (t :: r) (Rd ag .stmt 0 (t :: r))):=by
 have hlt:=hp.lt;obtain ⟨w0,hw0,hb0,hB⟩:=aS w #[.int .i64 0,.string ⟨#[]⟩,.int .u32 0,.int .i64 0,.slice none 0 0,.slice none 0 0] 26;have hk:2 < t.k:=q0A hg.hd V0E;have hn:=next w0 bp 0 t r (hp.below hb0);rw [hs] at hn;have HN:=Hi hn;have HSE:=Hi fun (w':World) (hb:Below w0.heap.size w0 w')=>function w' bp 0 t r V0 ((hp.below hb0).below hb) hg (by rw [q0q hg.hd V2,hs];decide)
 have Bc:=Hi (q01 (bp:=bp) hb0);have HB:=Hi hB;have HW:=Hi hw0;have hlb:=hB.lt;clear hb0 hp hw0 hB hg hn;go_enter Tryz.func124,Tryz.ntmps124;go_wp2_with fail
 rw [HW.out];refine HN.out.mono ?_;rintro e w1 ⟨rfl,hb1⟩;have HL1:=Hi (HSE.out w1 hb1);have Aj:=Hi (Bc.out.trans (q01 hb1));have AP:=Hi (HB.out.below hb1 HB.out.lt);have h01:=hb1.size;clear hb1 HSE;go_wp2_with fail
 refine HL1.out.mono ?_;rintro e w2 (⟨k,a,s,m,A,la,cA,B,lb,cB,x,r',rfl,hT,hR,hP,hG,hr,hU⟩ | ⟨a,er,rfl,hR,hU⟩)
 ·have hX:=AP.out.upd hU (show ¬ w.heap.size=bp from V0);obtain ⟨⟨e0,e1,e2,e3,e4,e5⟩,z0,z1,z2,z3,z4,z5⟩:=Aa.c6 hX;have HX:=Hi hX;have HT:=Hi hT;have HR:=Hi (r_fn (num:=ag) (d:=0) hs hk hR);have HP:=Hi hP;have HG:=Hi hG;have HU:=Hi (Aj.out.trans hU);exact VZ
 ·have HR:=Hi (r_fn (num:=ag) (d:=0) hs hk hR);have HU:=Hi (Aj.out.trans hU);exact Vz
theorem q7N(w:World)(bp:Nat)(t:Tk)(r:List Tk)(hp:PS w bp (t :: r) 0)(hg:Gt (t :: r))(h0:ak [115,101,99,114,101,116] t=false)(h1:ak [112,117,98,108,105,99] t=false)(h2:ak [111,117,116] t=false)(h3:ak [115,104,111,119] t=false)(h4:ak [102,110] t=false) :
  Calls Tryz.prog 124 #[.pointer (some ⟨bp,0,none⟩)] w (AB w bp 0 (t :: r) (Rd ag .stmt 0 (t :: r))):=by
 have hlt:=hp.lt;obtain ⟨w0,hw0,hb0,hB⟩:=aS w #[.int .i64 0,.string ⟨#[]⟩,.int .u32 0,.int .i64 0,.slice none 0 0,.slice none 0 0] 26;have hq0:=h0;have hq1:=h1;have hq2:=h2;have hq3:=h3;have hq4:=h4;rw [q0q hg.hd V2] at hq0 hq1 hq2 hq3 hq4;have HN:=Hi (next w0 bp 0 t r (hp.below hb0));have HHS:=Hi (show ak [115,101,99,114,101,116] t=false/\ak [112,117,98,108,105,99] t=false/\ak [111,117,116] t=false/\ak [115,104,111,119] t=false/\ak [102,110] t=false from ⟨h0,h1,h2,h3,h4⟩);have HSE:=Hi fun (w':World) (hb:Below w0.heap.size w0 w')=>aT (t :: r).length w' bp 0 (t :: r) (Nat.le_refl _) V0 ((hp.below hb0).below hb) hg
 have Bc:=Hi (q01 (bp:=bp) hb0);have HB:=Hi hB;have HW:=Hi hw0;have hlb:=hB.lt;clear hb0 hp hw0 hB hg h0 h1 h2 h3 h4;go_enter Tryz.func124,Tryz.ntmps124;go_wp2_with fail
 rw [HW.out];refine HN.out.mono ?_;rintro e w1 ⟨rfl,hb1⟩;have HL1:=Hi (HSE.out w1 hb1);have Aj:=Hi (Bc.out.trans (q01 hb1));have AP:=Hi (HB.out.below hb1 HB.out.lt);have h01:=hb1.size;clear hb1 HSE;go_wp2_with fail
 refine HL1.out.mono ?_;rintro e w2 (⟨k,a,s,m,A,la,cA,B,lb,cB,x,r',rfl,hT,hR,hP,hG,hr,hU⟩ | ⟨a,er,rfl,hR,hU⟩)
 ·have hX:=AP.out.upd hU (show ¬ w.heap.size=bp from V0);obtain ⟨⟨e0,e1,e2,e3,e4,e5⟩,z0,z1,z2,z3,z4,z5⟩:=Aa.c6 hX;have HX:=Hi hX;have HT:=Hi hT;have HR:=Hi (q6u (num:=ag) (d:=0) HHS.out.1 HHS.out.2.1 HHS.out.2.2.1 HHS.out.2.2.2.1 HHS.out.2.2.2.2 hR);have HP:=Hi hP;have HG:=Hi hG;have HU:=Hi (Aj.out.trans hU);exact VZ
 ·have HR:=Hi (q6u (num:=ag) (d:=0) HHS.out.1 HHS.out.2.1 HHS.out.2.2.1 HHS.out.2.2.2.1 HHS.out.2.2.2.2 hR);have HU:=Hi (Aj.out.trans hU);exact Vz
theorem statement(w:World)(bp:Nat)(t:Tk)(r:List Tk)(hp:PS w bp (t :: r) 0)(hg:Gt (t :: r)) :
  Calls Tryz.prog 124 #[.pointer (some ⟨bp,0,none⟩)] w (AB w bp 0 (t :: r) (Rd ag .stmt 0 (t :: r))):=by
 by_cases h0:t.s=[115,101,99,114,101,116]
 ·exact st_secret w bp t r hp hg h0
 by_cases h1:t.s=[112,117,98,108,105,99]
 ·exact st_public w bp t r hp hg h1
 by_cases h2:t.s=[111,117,116]
 ·exact st_out w bp t r hp hg h2
 by_cases h3:t.s=[115,104,111,119]
 ·exact st_show w bp t r hp hg h3
 by_cases h4:t.s=[102,110]
 ·exact st_fn w bp t r hp hg h4
 have hi:∀ b,t.s≠b->ak b t=false:=fun b h=>by unfold ak;simp [h]
 exact q7N w bp t r hp hg (hi _ h0) (hi _ h1) (hi _ h2) (hi _ h3) (hi _ h4)
end
end Pa
end Go.Proofs.YtcgibpdjfgjldaaGreatDoor
