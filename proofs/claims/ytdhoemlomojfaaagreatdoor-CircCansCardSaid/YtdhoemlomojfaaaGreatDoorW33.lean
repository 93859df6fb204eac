/- DERIVED. PaIn, PaFn. By an AI agent. -/
import Derived.Test.YtdhoemlomojfaaaGreatDoorW01
import Derived.Test.YtdhoemlomojfaaaGreatDoorW32
set_option maxRecDepth 100000
set_option maxHeartbeats 8000000
set_option linter.unusedVariables false
set_option linter.unusedSimpArgs false
namespace Go.Proofs.YtdhoemlomojfaaaGreatDoor.Pa
open Go Go.ChangeShapes Go.WideShapes Go.ChangeAt Go.RowKit Lx Args
section
attribute [local go_sem] fTk0 fTk1 fTk2
theorem tIn_with{N:Nat→Prop}{w:World}{k a n la cA:Nat}{s:Bs}{l:List Tr}{A:Option Addr}{B0:Option Addr}{lb cB:Nat}(h:TIn N w (.mk k a s n [] l) (ndC k a s n A la cA B0 lb cB)){ps:List Bs}{g c:Nat}(hL:Lies w (some ⟨g,0,none⟩) (ps.map strV))(hps:CapOk ps.length c)(hN:N g) :
  TIn N w (.mk k a s n ps l) (ndC k a s n A la cA (some ⟨g,0,none⟩) ps.length c):=by
 unfold TIn at h ⊢;obtain ⟨A1,cA1,B1,cB1,h1,h2,_,_,_,h6⟩:=h;unfold ndC at h1;simp only [List.cons.injEq,Value.slice.injEq,true_and,and_true] at h1;obtain ⟨⟨rfl,rfl,rfl⟩,_⟩:=h1;exact ⟨_,_,_,_,rfl,h2,hps,hL,fun b o e _=>(by cases e;exact hN),h6⟩
theorem in_bad{k a p:Nat}{r:List Tk}(h:∀ f,namesK [] r f=some (.bad p 100)):InK k a r=some (.bad p 100):=h _
theorem in_end{k a:Nat}{r r4:List Tk}{ps:List Bs}{v:Tk}(h:∀ f,namesK [] r f=f ps (v :: r4))(hv:isS [59] v=false):InK k a r=some (.bad v.at_ 100):=(h _).trans (must_n hv _)
theorem in_ok{k a:Nat}{r r4:List Tk}{ps:List Bs}{v:Tk}(h:∀ f,namesK [] r f=f ps (v :: r4))(hv:isS [59] v=true):InK k a r=some (.ok [.mk k a [] 0 ps []] r4):=(h _).trans (must_y hv _)
theorem inputs(k:Nat)(w:World)(bp d:Nat)(t:Tk)(r:List Tk)(hp:PS w bp (t :: r) d)(hg:Gt (t :: r))(hk:t.k≠0) :
  Calls Tryz.prog 84 #[.pointer (some ⟨bp,0,none⟩),.int .i64 (k:Int)] w (OutP w bp d (t :: r) (fun o=>InK k t.at_ r=some o)):=by
 have hlt:=hp.lt;have hgr:=hg.tail hk;obtain ⟨t2,r2,hr2⟩:=hgr.cons;obtain ⟨w0,hw0⟩:∃ w0,w.alloc (.cells #[.int .i64 0,.string ⟨#[]⟩,.int .u32 0,.int .i64 0,.slice none 0 0,.slice none 0 0] 62)=w0:=⟨_,rfl⟩;have hb0:Below w.heap.size w w0:=by rw [←hw0];exact (Below.refl _ _).alloc (Nat.le_refl _) _
 have hB:Blk w0 w.heap.size 62 #[.int .i64 0,.string ⟨#[]⟩,.int .u32 0,.int .i64 0,.slice none 0 0,.slice none 0 0]:=by rw [←hw0];exact Blk.new _ _ _
 have HT:=Hi (take w0 bp d t r (hp.below hb0) (by rw [hr2];simp));have HU0:=Hi (below_UB (bp:=bp) hb0);have HB:=Hi hB;have HW:=Hi hw0;have HGR:=Hi hgr;have hlb:=hB.lt;clear hb0 hp hw0 hB hg hr2 hgr hk;go_enter Tryz.func84,Tryz.ntmps84;go_wp2_with fail
 rw [HW.out];refine HT.out.mono ?_;rintro e w1 ⟨rfl,hp1,hu1⟩;have HNO:=Hi (show Calls Tryz.prog 72 #[.int .i64 (k:Int),.string ⟨#[]⟩,.int .i64 (t.at_:Int),.slice none 0 0] w1 _ from node w1 k t.at_ [] none 0 0);have HU1:=Hi (HU0.out.trans hu1);have HX1:=Hi (HB.out.upd hu1 (by omega));have HP1:=Hi hp1;have h01:=hu1.size;clear hp1 hu1;go_wp2_with fail
 refine HNO.out.mono ?_;rintro e w2 ⟨rfl,hb2⟩;obtain ⟨w3,hw3⟩:∃ w3,w2.alloc (.cells #[.int .i64 (k:Int),.string ⟨#[]⟩,.int .u32 0,.int .i64 (t.at_:Int),.slice none 0 0,.slice none 0 0] 62)=w3:=⟨_,rfl⟩;have hb23:Below w2.heap.size w2 w3:=by rw [←hw3];exact (Below.refl _ _).alloc (Nat.le_refl _) _
 have hb3:Below w1.heap.size w1 w3:=hb2.trans (hb23.mono hb2.size);have hbn:Blk w3 w2.heap.size 62 #[.int .i64 (k:Int),.string ⟨#[]⟩,.int .u32 0,.int .i64 (t.at_:Int),.slice none 0 0,.slice none 0 0]:=by rw [←hw3];exact Blk.new _ _ _
 have h12:=hb2.size;have h1p:=HP1.out.lt;have HNA:=Hi (names w3 bp d r (HP1.out.below hb3) HGR.out);have HU3:=Hi (HU1.out.trans (below_UB hb3));have HX3:=Hi (HX1.out.below hb3 HX1.out.lt);have HBN:=Hi hbn;have HW3:=Hi hw3;clear hb2 hb23 hb3 hbn hw3;go_wp2_with fail
 rw [HW3.out];refine HNA.out.mono ?_;rintro e w4 (⟨ps,r4,g,c,rfl,hR,hP,hE,hs,hr,hL,hgl,hpl,hU⟩ | ⟨a,rfl,hR,hU⟩);rotate_left
 ·have HR:=Hi (in_bad (k:=k) (a:=t.at_) hR);have HU4:=Hi (HU3.out.trans hU);clear hR hU;go_wp2_with fail
  exact ⟨rfl,.inr ⟨_,_,rfl,HR.out,HU4.out⟩⟩
 have hg4:=HGR.out.suf hE hs;obtain ⟨v,r5,rfl⟩:=hg4.cons;have hbn3:=HBN.out.lt;have hY4:=HBN.out.upd hU (show ¬ w2.heap.size=bp by omega);obtain ⟨w5,hw5⟩:∃ w5,w4.setCell ⟨w2.heap.size,5,none⟩ (.slice (some ⟨g,0,none⟩) ps.length c)=w5:=⟨_,rfl⟩;have hu5:Upd (fun b=>b=w2.heap.size) w4 w5:=by rw [←hw5];exact (Upd.refl (fun b=>b=w2.heap.size) w4).setCell (fun _=>rfl) _
 have hY5:Blk w5 w2.heap.size 62 #[.int .i64 (k:Int),.string ⟨#[]⟩,.int .u32 0,.int .i64 (t.at_:Int),.slice none 0 0,.slice (some ⟨g,0,none⟩) ps.length c]:=by rw [←hw5];exact hY4.set 5 _
 have hT5:TIn (fun b=>w.heap.size+1≤b) w5 (.mk k t.at_ [] 0 ps []) (ndC k t.at_ [] 0 none 0 0 (some ⟨g,0,none⟩) ps.length c):=tIn_with (tIn_leaf w5 k t.at_ 0 []) (hu5.lies hL fun b o e hl e2=>by cases e;omega) ⟨by omega,by omega,by omega⟩ (by omega);obtain ⟨⟨e0,e1,e2,e3,e4,e5⟩,z0,z1,z2,z3,z4,z5⟩:=Blk.c6 hY4;have HM5:=Hi (must_ w5 bp d v r5 [59] (hP.far hu5 fun b hb=>by omega) hg4 (by decide));have HX5:=Hi ((HX3.out.upd hU (by omega)).upd hu5 (by omega));have HY5:=Hi hY5;have HT5:=Hi hT5;have HR:=Hi hR;have HW5:=Hi hw5;have HU5:Hid (UB bp w w5):=Hi (by rw [←hw5];exact (HU3.out.trans hU).setCell (fun h=>absurd h (by show ¬ w2.heap.size < w.heap.size;omega)) _);clear hY4 hY5 hT5 hu5 hw5 hP hE hs hL hU hR hg4;go_wp2_with fail
 rw [HW5.out];refine HM5.out.mono ?_;rintro e w6 (⟨hv,rfl,hp6,hg6,hu6⟩ | ⟨hv,rfl,hu6⟩);rotate_left
 ·have HR6:=Hi (in_end (k:=k) (a:=t.at_) HR.out hv);have HU6:=Hi (HU5.out.trans hu6);clear hu6;go_wp2_with fail
  exact ⟨rfl,.inr ⟨_,_,rfl,HR6.out,HU6.out⟩⟩
 have HR6:=Hi (in_ok (k:=k) (a:=t.at_) HR.out hv);clear e0 e1 e2 e3 e4 e5 z0 z1 z2 z3 z4 z5;have hX:=HX5.out.upd hu6 (show ¬ w.heap.size=bp by omega);have hY:=HY5.out.upd hu6 (show ¬ w2.heap.size=bp by omega);obtain ⟨⟨e0,e1,e2,e3,e4,e5⟩,z0,z1,z2,z3,z4,z5⟩:=Blk.c6 hX;obtain ⟨⟨g0,g1,g2,g3,g4,g5⟩,y0,y1,y2,y3,y4,y5⟩:=Blk.c6 hY;have HX6:=Hi hX;have HP6:=Hi hp6;have HG6:=Hi hg6;have hlr:r5.length < (t :: r).length:=by simp at hr ⊢;omega
 have HT6:=Hi (HT5.out.upd hu6 fun b hb e=>by omega);have HU6:=Hi (HU5.out.trans hu6);clear hX hY hp6 hg6 hu6;go_wp2_with fail
 exact bodyPost_ret (resNd rfl rfl (Blk.put6 HX6.out _ _ _ _ _ _) rfl) rfl (out_ok hlt (Nat.lt_succ_self _) HT6.out HR6.out HP6.out HG6.out hlr HU6.out)
end
section
attribute [local go_sem] fTk0 fTk1 fTk2
section
variable {num : Bs → Nat × Nat} {a d : Nat} {t u v v2 : Tk} {r r4 r5 : List Tk} {ps : List Bs}
theorem fn1(h1:t.k≠1):Ev (fun f=>FnK num f a d (t :: r)) (.bad t.at_ 100):=ev_eq (ev_now _) fun _=>name_n h1 _
theorem fn2(h1:t.k = 1)(h2:isS [40] u=false):Ev (fun f=>FnK num f a d (t :: u :: r)) (.bad u.at_ 100):=ev_eq (ev_now _) fun _=>(name_y h1 _).trans (must_n h2 _)
theorem fn3{p:Nat}(h1:t.k = 1)(h2:isS [40] u=true)(h3:∀ f,namesK [] r f=some (.bad p 100)):Ev (fun f=>FnK num f a d (t :: u :: r)) (.bad p 100):=ev_eq (ev_now _) fun _=>(name_y h1 _).trans ((must_y h2 _).trans (h3 _))
theorem fn4(h1:t.k = 1)(h2:isS [40] u=true)(h3:∀ f,namesK [] r f=f ps (v :: r4))(h4:isS [41] v=false):Ev (fun f=>FnK num f a d (t :: u :: r)) (.bad v.at_ 100):=
 ev_eq (ev_now _) fun _=>(name_y h1 _).trans ((must_y h2 _).trans ((h3 _).trans (must_n h4 _)))
theorem fn5(h1:t.k = 1)(h2:isS [40] u=true)(h3:∀ f,namesK [] r f=f ps (v :: v2 :: r5))(h4:isS [41] v=true)(h5:isS [61] v2=false):Ev (fun f=>FnK num f a d (t :: u :: r)) (.bad v2.at_ 100):=
 ev_eq (ev_now _) fun _=>(name_y h1 _).trans ((must_y h2 _).trans ((h3 _).trans ((must_y h4 _).trans (must_n h5 _))))
theorem fn6{o:Out}(h1:t.k = 1)(h2:isS [40] u=true)(h3:∀ f,namesK [] r f=f ps (v :: v2 :: r5))(h4:isS [41] v=true)(h5:isS [61] v2=true)(h:Rd num (.fin 12 a t.s ps) d r5 o):Ev (fun f=>FnK num f a d (t :: u :: r)) o:=
 ev_eq h fun _=>(name_y h1 _).trans ((must_y h2 _).trans ((h3 _).trans ((must_y h4 _).trans (must_y h5 _))))
end
theorem function(w:World)(bp d:Nat)(q:Tk)(l:List Tk)(hd:d≤60)(hp:PS w bp (q :: l) d)(hg:Gt (q :: l))(hq:isS [102,110] q=true) :
  Calls Tryz.prog 87 #[.pointer (some ⟨bp,0,none⟩)] w (OutP w bp d (q :: l) (fun o=>Ev (fun f=>FnK numV f q.at_ d l) o)):=by
 have hlt:=hp.lt;obtain ⟨w0,hw0⟩:∃ w0,w.alloc (.cells #[.int .i64 0,.string ⟨#[]⟩,.int .u32 0,.int .i64 0,.slice none 0 0,.slice none 0 0] 62)=w0:=⟨_,rfl⟩;have hb0:Below w.heap.size w w0:=by rw [←hw0];exact (Below.refl _ _).alloc (Nat.le_refl _) _
 have hB:Blk w0 w.heap.size 62 #[.int .i64 0,.string ⟨#[]⟩,.int .u32 0,.int .i64 0,.slice none 0 0,.slice none 0 0]:=by rw [←hw0];exact Blk.new _ _ _
 have HM0:=Hi (must_ w0 bp d q l [102,110] (hp.below hb0) hg (by decide));have HU0:=Hi (below_UB (bp:=bp) hb0);have HB:=Hi hB;have HW:=Hi hw0;have hlb:=hB.lt;clear hb0 hp hw0 hB hg;go_enter Tryz.func87,Tryz.ntmps87;go_wp2_with fail
 rw [HW.out];refine HM0.out.mono ?_;rintro e wa (⟨hq',rfl,hpa,hga,hua⟩ | ⟨hq',rfl,hua⟩);rotate_left
 ·rw [hq] at hq';cases hq'
 obtain ⟨t,r,rfl⟩:=hga.cons;have HN:=Hi (name_ wa bp d t r hpa hga);have HUa:=Hi (HU0.out.trans hua);have HXa:=Hi (HB.out.upd hua (by omega));have h0a:=hua.size;clear hpa hga hua hq';go_wp2_with fail
 refine HN.out.mono ?_;rintro e w1 (⟨hk,rfl,hp1,hg1,hu1⟩ | ⟨hk,rfl,hu1⟩);rotate_left
 ·have HU1:=Hi (HUa.out.trans hu1);clear hu1;go_wp2_with fail
  exact ⟨rfl,.inr ⟨_,_,rfl,fn1 hk,HU1.out⟩⟩
 obtain ⟨u,r1,rfl⟩:=hg1.cons;have HM:=Hi (must_ w1 bp d u r1 [40] hp1 hg1 (by decide));have HU1:=Hi (HUa.out.trans hu1);have HX1:=Hi (HXa.out.upd hu1 (by omega));have h01:=hu1.size;clear hp1 hg1 hu1;go_wp2_with fail
 refine HM.out.mono ?_;rintro e w2 (⟨hu,rfl,hp2,hg2,hu2⟩ | ⟨hu,rfl,hu2⟩);rotate_left
 ·have HU2:=Hi (HU1.out.trans hu2);clear hu2;go_wp2_with fail
  exact ⟨rfl,.inr ⟨_,_,rfl,fn2 hk hu,HU2.out⟩⟩
 have HNA:=Hi (names w2 bp d r1 hp2 hg2);have HU2:=Hi (HU1.out.trans hu2);have HX2:=Hi (HX1.out.upd hu2 (by omega));have HG2:=Hi hg2;have h12:=hu2.size;clear hp2 hg2 hu2;go_wp2_with fail
 refine HNA.out.mono ?_;rintro e w3 (⟨ps,r4,g,c,rfl,hR,hP,hE,hs,hr4,hL,hgl,hpl,hU⟩ | ⟨p,rfl,hR,hU⟩);rotate_left
 ·have HR:=Hi (fn3 (num:=numV) (a:=q.at_) (d:=d) hk hu hR);have HU3:=Hi (HU2.out.trans hU);clear hR hU;go_wp2_with fail
  exact ⟨rfl,.inr ⟨_,_,rfl,HR.out,HU3.out⟩⟩
 have hg3:=HG2.out.suf hE hs;obtain ⟨v,r5,rfl⟩:=hg3.cons;have HM3:=Hi (must_ w3 bp d v r5 [41] hP hg3 (by decide));have HU3:=Hi (HU2.out.trans hU);have HX3:=Hi (HX2.out.upd hU (by omega));have HR3:=Hi hR;have HL3:=Hi hL;have h23:=hU.size;clear hP hE hs hL hU hR hg3;go_wp2_with fail
 refine HM3.out.mono ?_;rintro e w4 (⟨hv,rfl,hp4,hg4,hu4⟩ | ⟨hv,rfl,hu4⟩);rotate_left
 ·have HR:=Hi (fn4 (num:=numV) (a:=q.at_) (d:=d) hk hu HR3.out hv);have HU4:=Hi (HU3.out.trans hu4);clear hu4;go_wp2_with fail
  exact ⟨rfl,.inr ⟨_,_,rfl,HR.out,HU4.out⟩⟩
 obtain ⟨v2,r6,rfl⟩:=hg4.cons;have HM4:=Hi (must_ w4 bp d v2 r6 [61] hp4 hg4 (by decide));have HU4:=Hi (HU3.out.trans hu4);have HX4:=Hi (HX3.out.upd hu4 (by omega));have HL4:=Hi (hu4.lies HL3.out fun b o e _ e2=>by cases e;omega);have h34:=hu4.size;clear hp4 hg4 hu4;go_wp2_with fail
 refine HM4.out.mono ?_;rintro e w5 (⟨hv2,rfl,hp5,hg5,hu5⟩ | ⟨hv2,rfl,hu5⟩);rotate_left
 ·have HR:=Hi (fn5 (num:=numV) (a:=q.at_) (d:=d) hk hu HR3.out hv hv2);have HU5:=Hi (HU4.out.trans hu5);clear hu5;go_wp2_with fail
  exact ⟨rfl,.inr ⟨_,_,rfl,HR.out,HU5.out⟩⟩
 have HE5:=Hi (ex r6.length w5 bp d r6 (Nat.le_refl _) hd hp5 hg5);have HU5:=Hi (HU4.out.trans hu5);have HX5:=Hi (HX4.out.upd hu5 (by omega));have HL5:=Hi (hu5.lies HL4.out fun b o e _ e2=>by cases e;omega);have h45:=hu5.size;clear hp5 hg5 hu5;go_wp2_with fail
 refine HE5.out.mono ?_;rintro e w6 (⟨kx,ax,sx,nx,A,la,cA,B,lb,cB,x,r7,rfl,hT,hR,hP,hG,hr,hU⟩ | ⟨a1,er,rfl,hR,hU⟩);rotate_left
 ·have HR:=Hi (fn6 (a:=q.at_) hk hu HR3.out hv hv2 (r_fin_bad hR));have HU6:=Hi (HU5.out.trans hU);clear hR hU;go_wp2_with fail
  exact ⟨rfl,.inr ⟨_,_,rfl,HR.out,HU6.out⟩⟩
 have h56:=hU.size;obtain ⟨w7,hw7⟩:∃ w7,w6.alloc (.cells #[.int .i64 (kx:Int),.string ⟨sx.toArray⟩,.int .u32 (nx:Int),.int .i64 (ax:Int),.slice A la cA,.slice B lb cB] 62)=w7:=⟨_,rfl⟩;have hb7:Below w6.heap.size w6 w7:=by rw [←hw7];exact (Below.refl _ _).alloc (Nat.le_refl _) _
 have hT7:TIn (fun b=>w.heap.size+1≤b) w7 (.mk 12 q.at_ t.s 0 [] [x]) (ndC 12 q.at_ t.s 0 (some ⟨w6.heap.size,0,none⟩) 1 1 none 0 0):=by
  rw [←hw7];exact (nd_one hT h56 62 12 q.at_ t.s).up (by omega)
 have hx5:=HX5.out.lt;have hL7:Lies w7 (some ⟨g,0,none⟩) (ps.map strV):=(hU.trans (below_UB hb7)).lies HL5.out fun b o e _ e2=>by cases e;omega
 have HT7:=Hi (tIn_with (c:=c) hT7 hL7 ⟨by omega,by omega,by omega⟩ (by omega));have HN7:=Hi (show Calls Tryz.prog 72 #[.int .i64 12,.string ⟨t.s.toArray⟩,.int .i64 (q.at_:Int),.slice (some ⟨w6.heap.size,0,none⟩) 1 1] w7 _ from node w7 12 q.at_ t.s (some ⟨w6.heap.size,0,none⟩) 1 1);have HX7:=Hi ((HX5.out.upd hU (by omega)).below hb7 (by omega));have HU7:=Hi ((HU5.out.trans hU).trans (below_UB hb7));have HP7:=Hi (hP.below hb7);have HG7:=Hi hG;have HR7:=Hi hR;have HW7:=Hi hw7;clear hT hR hP hG hU hT7 hw7 hb7 hL7;go_wp2_with fail
 rw [HW7.out];refine HN7.out.mono ?_;rintro e w8 ⟨rfl,hb8⟩;obtain ⟨z,r8,rfl⟩:=HG7.out.cons;obtain ⟨w9,hw9⟩:∃ w9,w8.alloc (.cells #[.int .i64 12,.string ⟨t.s.toArray⟩,.int .u32 0,.int .i64 (q.at_:Int),.slice (some ⟨w6.heap.size,0,none⟩) 1 1,.slice (some ⟨g,0,none⟩) ps.length c] 62)=w9:=⟨_,rfl⟩;have hb89:Below w8.heap.size w8 w9:=by rw [←hw9];exact (Below.refl _ _).alloc (Nat.le_refl _) _
 have hb9:Below w7.heap.size w7 w9:=hb8.trans (hb89.mono hb8.size);have hbn:Blk w9 w8.heap.size 62 #[.int .i64 12,.string ⟨t.s.toArray⟩,.int .u32 0,.int .i64 (q.at_:Int),.slice (some ⟨w6.heap.size,0,none⟩) 1 1,.slice (some ⟨g,0,none⟩) ps.length c]:=by rw [←hw9];exact Blk.new _ _ _
 have h78:=hb8.size;have hx7:=HX7.out.lt;have HM9:=Hi (must_ w9 bp d z r8 [59] (HP7.out.below hb9) HG7.out (by decide));have HX9:=Hi (HX7.out.below hb9 HX7.out.lt);have HU9:=Hi (HU7.out.trans (below_UB hb9));have HT9:=Hi (HT7.out.upd (Upd.of_below hb9 fun _=>False) (fun _ _ h=>h));have HBN:=Hi hbn;have HW9:=Hi hw9;have hp7l:=HP7.out.lt;clear hb8 hb89 hb9 hbn hw9;go_wp2_with fail
 rw [HW9.out];refine HM9.out.mono ?_;rintro e wz (⟨hz,rfl,hpz,hgz,huz⟩ | ⟨hz,rfl,huz⟩);rotate_left
 ·have HRz:=Hi (fn6 (a:=q.at_) hk hu HR3.out hv hv2 (r_fin_end HR7.out hz));have HUz:=Hi (HU9.out.trans huz);clear huz;go_wp2_with fail
  exact ⟨rfl,.inr ⟨_,_,rfl,HRz.out,HUz.out⟩⟩
 have HRz:=Hi (fn6 (a:=q.at_) hk hu HR3.out hv hv2 (r_fin HR7.out hz));have hX:=HX9.out.upd huz (show ¬ w.heap.size=bp by omega);have hY:=HBN.out.upd huz (show ¬ w8.heap.size=bp by omega);obtain ⟨⟨e0,e1,e2,e3,e4,e5⟩,z0,z1,z2,z3,z4,z5⟩:=Blk.c6 hX;obtain ⟨⟨g0,g1,g2,g3,g4,g5⟩,y0,y1,y2,y3,y4,y5⟩:=Blk.c6 hY;have HXz:=Hi hX;have HPz:=Hi hpz;have HGz:=Hi hgz;have hlr:r8.length < (q :: t :: u :: r1).length:=by simp at hr hr4 ⊢;omega
 have HTz:=Hi (HT9.out.upd huz fun b hb e=>by omega);have HUz:=Hi (HU9.out.trans huz);clear hX hY hpz hgz huz;go_wp2_with fail
 exact bodyPost_ret (resNd rfl rfl (Blk.put6 HXz.out _ _ _ _ _ _) rfl) rfl (out_ok hlt (Nat.lt_succ_self _) HTz.out HRz.out HPz.out HGz.out hlr HUz.out)
end
end Go.Proofs.YtdhoemlomojfaaaGreatDoor.Pa
