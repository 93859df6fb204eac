/- DERIVED. RqSs, PaSs, PaPg. By an AI agent. -/
import Derived.Test.YtcgibpdjfgjldaaGreatDoorT36
set_option maxRecDepth 100000
set_option maxHeartbeats 8000000
set_option linter.unusedVariables false
set_option linter.unusedSimpArgs false
open Go Go.ChangeShapes Go.WideShapes Go.ChangeAt Go.RowKit
namespace Go.Proofs.YtcgibpdjfgjldaaGreatDoor
namespace Pq
open Lx Args Pa
section
attribute [local go_sem] fTk0 fTk1 fTk2
theorem q4s{lo g c:Nat}{w:World}{ps:List Bs}(hL:Lies w (some ⟨g,0,none⟩) (ps.map strV))(hg:lo<=g)(hl:CapOk ps.length c)(k a:Nat):TIn (fun b=>lo<=b) w (.mk k a [] 0 ps []) (ndC k a [] 0 none 0 0 (some ⟨g,0,none⟩) ps.length c):=by
 unfold TIn;exact ⟨none,0,some ⟨g,0,none⟩,c,rfl,⟨V3,V3,V2⟩,hl,hL,fun b o e _=>by cases e;exact hg,[],Lies.nil _ _,fun b o e=>VH,V0z⟩
theorem q73{k a:Nat}{t:Tk}{r:List Tk}{o:Out}(h:∀ f,pF numV (f+1) .stmt 0 (t :: r)=InK k a r)(ho:Ev (fun f=>NmK [] (fun ps _ r1=>must [59] r1 fun r2=>some (.ok [.mk k a [] 0 ps []] r2)) f r) o):Rd numV .stmt 0 (t :: r) o:=q0k ho h
theorem q8J{k a:Nat}{t:Tk}{r:List Tk}{o:Out}(h:∀ f,pF numV (f+1) .stmt 0 (t :: r)=SetK numV f k a 0 r)(ho:Ev (fun f=>nameK r fun s r1=>must [61] r1 fun r2=>FinK f k a s [] 0 r2) o):Rd numV .stmt 0 (t :: r) o:=q0k (ev_up ho fun f=>set_fin f k a 0 r) h
def FnQ(f a:Nat)(r:List Tk):OO:=nameK r fun s r1=>must [40] r1 fun r2=>NmK [] (fun ps f r3=>must [41] r3 fun r4=>must [61] r4 fun r5=>FinK f 12 a s ps 0 r5) f r2
theorem st_fn{a:Nat}{t:Tk}{r:List Tk}{o:Out}(h:∀ f,pF numV (f+1) .stmt 0 (t :: r)=FnK numV f a 0 r)(ho:Ev (fun f=>FnQ f a r) o):Rd numV .stmt 0 (t :: r) o:=q0k (ev_up (K':=fun f=>FnK numV f a 0 r) ho fun f=>rfl) h
theorem st_secret(w:World)(bp:Nat)(t:Tk)(r:List Tk)(hp:QS w bp (t :: r) 0 0)(hg:Gt (t :: r))(y:isS [115,101,99,114,101,116] t=true) :
  Calls Tryz.prog 26 #[.pointer (some ⟨bp,0,none⟩)] w (OutQ w bp (t :: r) (Rd numV .stmt 0 (t :: r))):=by
 have HR:=Hi fun (o:Out)=>q73 (k:=6) (a:=t.at_) (t:=t) (r:=r) (o:=o) fun f=>by rw [st_,if_pos y]
 obtain ⟨w0,hw0,hb0,hB⟩:=q06 w;have hlt:=hp.lt;have hfw:=hg.few;simp only [List.length_cons] at hfw;have HT:=Hi (tok w0 bp 0 0 t r (hp.below hb0));have HP0:=Hi (hp.below hb0);have HGR:=Hi (hg.tail (q1H y));have HNE:=Hi (q4T hg (q1H y));have HY:=Hi y;have HB0:=Hi hb0;have HB:=Hi hB;have HW:=Hi hw0;have hbl:=hB.lt;clear hb0 hB hp hw0 hg y;go_enter Tryz.func26,Tryz.ntmps26;go_wp2_with fail
 rw [HW.out];refine HT.out.mono ?_;rintro e w1 ⟨rfl,hb1⟩;have h01:=hb1.size;have HP1:=Hi (HP0.out.below hb1);have HU1:=Hi ((q00 (bp:=bp) HB0.out).trans (q00 hb1));have HX1:=Hi (HB.out.below hb1 HB.out.lt);clear hb1 HT HP0;go_wp2_with fail
 refine (q0z w1 bp t r [115,101,99,114,101,116] HP1.out HY.out HNE.out).mono ?_;rintro e wa ⟨rfl,hpa,hua⟩;have HSa:Hid (SC wa bp r.length (NmK [] fun ps _ r1=>must [59] r1 fun r2=>some (.ok [.mk 6 t.at_ [] 0 ps []] r2)) (Rd numV .stmt 0 (t :: r))):=Hi (.inl ⟨r,hpa,HGR.out,Nat.le_refl _,fun o ho=>HR.out o ho⟩);have h1a:=hua.size;have HUa:=Hi (HU1.out.trans hua);have HXa:=Hi (HX1.out.upd hua (show ¬ w.heap.size=bp from V0));clear hpa hua HP1 HU1 HX1;go_wp2_with fail
 refine (q6V wa bp r.length V0 _ _ HSa.out).mono ?_;rintro e wb ⟨ps,gp,cp,rfl,hLb,hgb,hplen,hsb,hub,hstb⟩;have hab:=hub.size;have HSb:=Hi hsb;have HLb:=Hi hLb;have HUb:=Hi (HUa.out.trans hub);have HXb:=Hi (HXa.out.upd hub (show ¬ w.heap.size=bp from V0));clear hsb hub hstb hLb HSa HUa HXa;go_wp2_with fail
 refine (q37 wb bp _ _ (fun _ r2=>some (.ok [.mk 6 t.at_ [] 0 ps []] r2)) _ HSb.out).mono ?_;rintro e wc ⟨rfl,hsc,huc,hstc⟩;have hbc:=huc.size;have hx:=HXb.out.upd huc (show ¬ w.heap.size=bp from V0);obtain ⟨⟨e0,e1,e2,e3,e4,e5⟩,z0,z1,z2,z3,z4,z5⟩:=Blk.c6 hx;have hxl:=hx.lt;have HSc:=Hi hsc;have HUc:=Hi (HUb.out.trans huc);have HXc:=Hi hx;have HLc:=Hi (huc.lies HLb.out fun b o e _ hx=>Vb);clear hsc huc hstc hx HSb HUb HXb HLb;go_wp2_with fail
 refine bodyPost_ret (resNd rfl rfl (Blk.put6 HXc.out _ _ _ _ _ _) rfl) rfl ?_;rcases HSc.out with ⟨l8,hq8,hg8,hl8,hE8⟩ | ⟨ba,er,t8,r8,he8,hE8,hq8⟩
 ·exact q7o (lo:=w.heap.size+1) (s:=[]) hlt (Nat.lt_succ_self _) (q4s (lo:=w.heap.size+1) HLc.out V0 ⟨V0,V0,V0⟩ 6 t.at_) (hE8 _ (q09 _)) hq8 hg8 VD HUc.out
 ·exact q1x 6 t.at_ 0 0 0 _ _ [] none _ hlt he8 hE8 hq8 HUc.out
theorem st_public(w:World)(bp:Nat)(t:Tk)(r:List Tk)(hp:QS w bp (t :: r) 0 0)(hg:Gt (t :: r))(n0:isS [115,101,99,114,101,116] t=false)(y:isS [112,117,98,108,105,99] t=true) :
  Calls Tryz.prog 26 #[.pointer (some ⟨bp,0,none⟩)] w (OutQ w bp (t :: r) (Rd numV .stmt 0 (t :: r))):=by
 have HR:=Hi fun (o:Out)=>q73 (k:=7) (a:=t.at_) (t:=t) (r:=r) (o:=o) fun f=>by rw [st_,if_neg (by rw [n0];decide),if_pos y]
 obtain ⟨w0,hw0,hb0,hB⟩:=q06 w;have hlt:=hp.lt;have hfw:=hg.few;simp only [List.length_cons] at hfw;have HT:=Hi (tok w0 bp 0 0 t r (hp.below hb0));have HP0:=Hi (hp.below hb0);have HGR:=Hi (hg.tail (q1H y));have HNE:=Hi (q4T hg (q1H y));have HY:=Hi y;have N0:=Hi n0;have HB0:=Hi hb0;have HB:=Hi hB;have HW:=Hi hw0;have hbl:=hB.lt;clear hb0 hB hp hw0 hg y n0;go_enter Tryz.func26,Tryz.ntmps26;go_wp2_with fail
 rw [HW.out];refine HT.out.mono ?_;rintro e w1 ⟨rfl,hb1⟩;have h01:=hb1.size;have HP1:=Hi (HP0.out.below hb1);have HU1:=Hi ((q00 (bp:=bp) HB0.out).trans (q00 hb1));have HX1:=Hi (HB.out.below hb1 HB.out.lt);clear hb1 HT HP0;go_wp2_with fail
 refine (q04 w1 bp 0 0 t r [115,101,99,114,101,116] HP1.out (.inr N0.out)).mono ?_;rintro e w2 ⟨rfl,hb2⟩;have h12:=hb2.size;have HP2:=Hi (HP1.out.below hb2);have HU2:=Hi (HU1.out.trans (q00 hb2));have HX2:=Hi (HX1.out.below hb2 HX1.out.lt);clear hb2 HP1 HU1 HX1;go_wp2_with fail
 refine (q0z w2 bp t r [112,117,98,108,105,99] HP2.out HY.out HNE.out).mono ?_;rintro e wa ⟨rfl,hpa,hua⟩;have HSa:Hid (SC wa bp r.length (NmK [] fun ps _ r1=>must [59] r1 fun r2=>some (.ok [.mk 7 t.at_ [] 0 ps []] r2)) (Rd numV .stmt 0 (t :: r))):=Hi (.inl ⟨r,hpa,HGR.out,Nat.le_refl _,fun o ho=>HR.out o ho⟩);have h1a:=hua.size;have HUa:=Hi (HU2.out.trans hua);have HXa:=Hi (HX2.out.upd hua (show ¬ w.heap.size=bp from V0));clear hpa hua HP2 HU2 HX2;go_wp2_with fail
 refine (q6V wa bp r.length V0 _ _ HSa.out).mono ?_;rintro e wb ⟨ps,gp,cp,rfl,hLb,hgb,hplen,hsb,hub,hstb⟩;have hab:=hub.size;have HSb:=Hi hsb;have HLb:=Hi hLb;have HUb:=Hi (HUa.out.trans hub);have HXb:=Hi (HXa.out.upd hub (show ¬ w.heap.size=bp from V0));clear hsb hub hstb hLb HSa HUa HXa;go_wp2_with fail
 refine (q37 wb bp _ _ (fun _ r2=>some (.ok [.mk 7 t.at_ [] 0 ps []] r2)) _ HSb.out).mono ?_;rintro e wc ⟨rfl,hsc,huc,hstc⟩;have hbc:=huc.size;have hx:=HXb.out.upd huc (show ¬ w.heap.size=bp from V0);obtain ⟨⟨e0,e1,e2,e3,e4,e5⟩,z0,z1,z2,z3,z4,z5⟩:=Blk.c6 hx;have hxl:=hx.lt;have HSc:=Hi hsc;have HUc:=Hi (HUb.out.trans huc);have HXc:=Hi hx;have HLc:=Hi (huc.lies HLb.out fun b o e _ hx=>Vb);clear hsc huc hstc hx HSb HUb HXb HLb;go_wp2_with fail
 refine bodyPost_ret (resNd rfl rfl (Blk.put6 HXc.out _ _ _ _ _ _) rfl) rfl ?_;rcases HSc.out with ⟨l8,hq8,hg8,hl8,hE8⟩ | ⟨ba,er,t8,r8,he8,hE8,hq8⟩
 ·exact q7o (lo:=w.heap.size+1) (s:=[]) hlt (Nat.lt_succ_self _) (q4s (lo:=w.heap.size+1) HLc.out V0 ⟨V0,V0,V0⟩ 7 t.at_) (hE8 _ (q09 _)) hq8 hg8 VD HUc.out
 ·exact q1x 7 t.at_ 0 0 0 _ _ [] none _ hlt he8 hE8 hq8 HUc.out
theorem st_out(w:World)(bp:Nat)(t:Tk)(r:List Tk)(hp:QS w bp (t :: r) 0 0)(hg:Gt (t :: r))(n0:isS [115,101,99,114,101,116] t=false)(n1:isS [112,117,98,108,105,99] t=false)(y:isS [111,117,116] t=true) :
  Calls Tryz.prog 26 #[.pointer (some ⟨bp,0,none⟩)] w (OutQ w bp (t :: r) (Rd numV .stmt 0 (t :: r))):=by
 have HR:=Hi fun (o:Out)=>q8J (k:=8) (a:=t.at_) (t:=t) (r:=r) (o:=o) fun f=>by rw [st_,if_neg (by rw [n0];decide),if_neg (by rw [n1];decide),if_pos y]
 obtain ⟨w0,hw0,hb0,hB⟩:=q06 w;have hlt:=hp.lt;have hfw:=hg.few;simp only [List.length_cons] at hfw;have HT:=Hi (tok w0 bp 0 0 t r (hp.below hb0));have HP0:=Hi (hp.below hb0);have HGR:=Hi (hg.tail (q1H y));have HNE:=Hi (q4T hg (q1H y));have HY:=Hi y;have N0:=Hi n0;have N1:=Hi n1;have HB0:=Hi hb0;have HB:=Hi hB;have HW:=Hi hw0;have hbl:=hB.lt;clear hb0 hB hp hw0 hg y n0 n1;go_enter Tryz.func26,Tryz.ntmps26;go_wp2_with fail
 rw [HW.out];refine HT.out.mono ?_;rintro e w1 ⟨rfl,hb1⟩;have h01:=hb1.size;have HP1:=Hi (HP0.out.below hb1);have HU1:=Hi ((q00 (bp:=bp) HB0.out).trans (q00 hb1));have HX1:=Hi (HB.out.below hb1 HB.out.lt);clear hb1 HT HP0;go_wp2_with fail
 refine (q04 w1 bp 0 0 t r [115,101,99,114,101,116] HP1.out (.inr N0.out)).mono ?_;rintro e w2 ⟨rfl,hb2⟩;have h12:=hb2.size;have HP2:=Hi (HP1.out.below hb2);have HU2:=Hi (HU1.out.trans (q00 hb2));have HX2:=Hi (HX1.out.below hb2 HX1.out.lt);clear hb2 HP1 HU1 HX1;go_wp2_with fail
 refine (q04 w2 bp 0 0 t r [112,117,98,108,105,99] HP2.out (.inr N1.out)).mono ?_;rintro e w3 ⟨rfl,hb3⟩;have h23:=hb3.size;have HP3:=Hi (HP2.out.below hb3);have HU3:=Hi (HU2.out.trans (q00 hb3));have HX3:=Hi (HX2.out.below hb3 HX2.out.lt);clear hb3 HP2 HU2 HX2;go_wp2_with fail
 refine (q0z w3 bp t r [111,117,116] HP3.out HY.out HNE.out).mono ?_;rintro e wa ⟨rfl,hpa,hua⟩;have HSa:Hid (SC wa bp r.length (fun f l=>nameK l fun s r1=>must [61] r1 fun r2=>FinK f 8 t.at_ s [] 0 r2) (Rd numV .stmt 0 (t :: r))):=Hi (.inl ⟨r,hpa,HGR.out,Nat.le_refl _,fun o ho=>HR.out o ho⟩);have h1a:=hua.size;have HUa:=Hi (HU3.out.trans hua);have HXa:=Hi (HX3.out.upd hua (show ¬ w.heap.size=bp from V0));clear hpa hua HP3 HU3 HX3;go_wp2_with fail
 refine (q5x wa bp _ _ _ HSa.out).mono ?_;rintro e wb ⟨sn,rfl,hsb,hub,hstb⟩;have hab:=hub.size;have HSb:=Hi hsb;have HUb:=Hi (HUa.out.trans hub);have HXb:=Hi (HXa.out.upd hub (show ¬ w.heap.size=bp from V0));clear hsb hub hstb HSa HUa HXa;go_wp2_with fail
 refine (q37 wb bp _ _ _ _ HSb.out).mono ?_;rintro e wx ⟨rfl,hsx,hux,hstx⟩;have hbx:=hux.size;have HSx:=Hi hsx;have HUx:=Hi (HUb.out.trans hux);have HXx:=Hi (HXb.out.upd hux (show ¬ w.heap.size=bp from V0));clear hsx hux hstx HSb HUb HXb;go_wp2_with fail
 refine (ex_u wx bp _ 0 (fun xs f r=>must [59] r fun r'=>some (.ok [.mk 8 t.at_ sn 0 [] xs] r')) _ HSx.out).mono ?_;rintro e w6 ⟨k,a,s,m,A,la,cA,B,lb,cB,x,rfl,hT,hS,hU,_⟩;obtain ⟨w7,hw7,hb7,hbn⟩:=alK w6 #[.int .i64 (k:Int),.string ⟨s.toArray⟩,.int .u32 (m:Int),.int .i64 (a:Int),.slice A la cA,.slice B lb cB] 26;have hx6:=hU.size;have h67:=hbn.lt;have HT6:=Hi hT;have HS7:=Hi (hS.below hb7);have HST:=Hi (hS.stay hb7);have HU7:=Hi ((HUx.out.trans hU).trans (q00 hb7));have HX7:=Hi ((HXx.out.upd hU (show ¬ w.heap.size=bp from V0)).below hb7 V0);have HB7:=Hi hb7;have HW7:=Hi hw7;have HBN:=Hi hbn;clear hT hS hU hb7 hw7 hbn HSx HUx HXx;go_wp2_with fail
 rw [HW7.out];refine (q37 w7 bp _ _ _ _ HS7.out).mono ?_;rintro e w8 ⟨rfl,hs8,hu8,hst8⟩;have h78:=hu8.size;have hn8:=HBN.out.upd hu8 (show ¬ w6.heap.size=bp from V0);obtain ⟨⟨g0,g1,g2,g3,g4,g5⟩,x0,x1,x2,x3,x4,x5⟩:=Blk.c6 hn8;have hn8l:=hn8.lt;have HS8:=Hi hs8;have HST8:=Hi hst8;have HU8:=Hi (HU7.out.trans hu8);have HX8:=Hi (HX7.out.upd hu8 (show ¬ w.heap.size=bp from V0));have HU78:=Hi hu8;clear hs8 hu8 hst8 hn8 HS7 HU7 HX7;go_wp2_with fail
 obtain ⟨w9,hw9,hb9,-⟩:=alK w8 #[.int .i64 (k:Int),.string ⟨s.toArray⟩,.int .u32 (m:Int),.int .i64 (a:Int),.slice A la cA,.slice B lb cB] 26;rw [hw9];refine (node w9 8 t.at_ sn _ 1 1).mono ?_;rintro e w10 ⟨rfl,hb10⟩;have hb89:Below w8.heap.size w8 w10:=hb9.trans (hb10.mono hb9.size);have hx:=HX8.out.below hb89 HX8.out.lt;obtain ⟨⟨e0,e1,e2,e3,e4,e5⟩,z0,z1,z2,z3,z4,z5⟩:=Blk.c6 hx;have H1:=Hi hx;have HB8:=Hi hb89;have HB10:=Hi hb10;have HW9:=Hi hw9;clear hx hb89 hb9 hb10 hw9 g0 g1 g2 g3 g4 g5 x0 x1 x2 x3 x4 x5;go_wp2_with fail
 refine bodyPost_ret (resNd rfl rfl (Blk.put6 H1.out _ _ _ _ _ _) rfl) rfl ?_;have hU10:UB bp w w10:=HU8.out.trans (q00 HB8.out);rcases HS8.out with ⟨l8,hq8,hg8,hl8,hE8⟩ | ⟨ba,er,t8,r8,he8,hE8,hq8⟩
 ·have hz:=HST.out.back (HST8.out.back (q4r hq8));have hT8:TIn (fun b=>w.heap.size+1<=b) w8 x (ndC k a s m A la cA B lb cB):=(((tup (HT6.out hz) (show w.heap.size+1<=wx.heap.size from V0)).upd (Upd.of_below HB7.out fun _=>False) (fun _ _ h=>h)).upd HU78.out fun b hb e=>V0);have hA:=ArrT.first (e:=26) hT8 V0;rw [show w8.alloc (.cells (ndC k a s m A la cA B lb cB).toArray 26)=w9 from HW9.out] at hA;have hN:=(hA.upd (Upd.of_below HB10.out fun _=>False) (fun _ h=>h.elim)).node V3 8 t.at_ 0 sn;exact V3m
 ·exact q1x 8 t.at_ 0 1 1 0 0 sn _ none hlt he8 hE8 (hq8.below HB8.out) hU10
theorem st_show(w:World)(bp:Nat)(t:Tk)(r:List Tk)(hp:QS w bp (t :: r) 0 0)(hg:Gt (t :: r))(n0:isS [115,101,99,114,101,116] t=false)(n1:isS [112,117,98,108,105,99] t=false)(n2:isS [111,117,116] t=false)(y:isS [115,104,111,119] t=true) :
  Calls Tryz.prog 26 #[.pointer (some ⟨bp,0,none⟩)] w (OutQ w bp (t :: r) (Rd numV .stmt 0 (t :: r))):=by
 have HR:=Hi fun (o:Out)=>q8J (k:=9) (a:=t.at_) (t:=t) (r:=r) (o:=o) fun f=>by rw [st_,if_neg (by rw [n0];decide),if_neg (by rw [n1];decide),if_neg (by rw [n2];decide),if_pos y]
 obtain ⟨w0,hw0,hb0,hB⟩:=q06 w;have hlt:=hp.lt;have hfw:=hg.few;simp only [List.length_cons] at hfw;have HT:=Hi (tok w0 bp 0 0 t r (hp.below hb0));have HP0:=Hi (hp.below hb0);have HGR:=Hi (hg.tail (q1H y));have HNE:=Hi (q4T hg (q1H y));have HY:=Hi y;have N0:=Hi n0;have N1:=Hi n1;have N2:=Hi n2;have HB0:=Hi hb0;have HB:=Hi hB;have HW:=Hi hw0;have hbl:=hB.lt;clear hb0 hB hp hw0 hg y n0 n1 n2;go_enter Tryz.func26,Tryz.ntmps26;go_wp2_with fail
 rw [HW.out];refine HT.out.mono ?_;rintro e w1 ⟨rfl,hb1⟩;have h01:=hb1.size;have HP1:=Hi (HP0.out.below hb1);have HU1:=Hi ((q00 (bp:=bp) HB0.out).trans (q00 hb1));have HX1:=Hi (HB.out.below hb1 HB.out.lt);clear hb1 HT HP0;go_wp2_with fail
 refine (q04 w1 bp 0 0 t r [115,101,99,114,101,116] HP1.out (.inr N0.out)).mono ?_;rintro e w2 ⟨rfl,hb2⟩;have h12:=hb2.size;have HP2:=Hi (HP1.out.below hb2);have HU2:=Hi (HU1.out.trans (q00 hb2));have HX2:=Hi (HX1.out.below hb2 HX1.out.lt);clear hb2 HP1 HU1 HX1;go_wp2_with fail
 refine (q04 w2 bp 0 0 t r [112,117,98,108,105,99] HP2.out (.inr N1.out)).mono ?_;rintro e w3 ⟨rfl,hb3⟩;have h23:=hb3.size;have HP3:=Hi (HP2.out.below hb3);have HU3:=Hi (HU2.out.trans (q00 hb3));have HX3:=Hi (HX2.out.below hb3 HX2.out.lt);clear hb3 HP2 HU2 HX2;go_wp2_with fail
 refine (q04 w3 bp 0 0 t r [111,117,116] HP3.out (.inr N2.out)).mono ?_;rintro e w4 ⟨rfl,hb4⟩;have h34:=hb4.size;have HP4:=Hi (HP3.out.below hb4);have HU4:=Hi (HU3.out.trans (q00 hb4));have HX4:=Hi (HX3.out.below hb4 HX3.out.lt);clear hb4 HP3 HU3 HX3;go_wp2_with fail
 refine (q0z w4 bp t r [115,104,111,119] HP4.out HY.out HNE.out).mono ?_;rintro e wa ⟨rfl,hpa,hua⟩;have HSa:Hid (SC wa bp r.length (fun f l=>nameK l fun s r1=>must [61] r1 fun r2=>FinK f 9 t.at_ s [] 0 r2) (Rd numV .stmt 0 (t :: r))):=Hi (.inl ⟨r,hpa,HGR.out,Nat.le_refl _,fun o ho=>HR.out o ho⟩);have h1a:=hua.size;have HUa:=Hi (HU4.out.trans hua);have HXa:=Hi (HX4.out.upd hua (show ¬ w.heap.size=bp from V0));clear hpa hua HP4 HU4 HX4;go_wp2_with fail
 refine (q5x wa bp _ _ _ HSa.out).mono ?_;rintro e wb ⟨sn,rfl,hsb,hub,hstb⟩;have hab:=hub.size;have HSb:=Hi hsb;have HUb:=Hi (HUa.out.trans hub);have HXb:=Hi (HXa.out.upd hub (show ¬ w.heap.size=bp from V0));clear hsb hub hstb HSa HUa HXa;go_wp2_with fail
 refine (q37 wb bp _ _ _ _ HSb.out).mono ?_;rintro e wx ⟨rfl,hsx,hux,hstx⟩;have hbx:=hux.size;have HSx:=Hi hsx;have HUx:=Hi (HUb.out.trans hux);have HXx:=Hi (HXb.out.upd hux (show ¬ w.heap.size=bp from V0));clear hsx hux hstx HSb HUb HXb;go_wp2_with fail
 refine (ex_u wx bp _ 0 (fun xs f r=>must [59] r fun r'=>some (.ok [.mk 9 t.at_ sn 0 [] xs] r')) _ HSx.out).mono ?_;rintro e w6 ⟨k,a,s,m,A,la,cA,B,lb,cB,x,rfl,hT,hS,hU,_⟩;obtain ⟨w7,hw7,hb7,hbn⟩:=alK w6 #[.int .i64 (k:Int),.string ⟨s.toArray⟩,.int .u32 (m:Int),.int .i64 (a:Int),.slice A la cA,.slice B lb cB] 26;have hx6:=hU.size;have h67:=hbn.lt;have HT6:=Hi hT;have HS7:=Hi (hS.below hb7);have HST:=Hi (hS.stay hb7);have HU7:=Hi ((HUx.out.trans hU).trans (q00 hb7));have HX7:=Hi ((HXx.out.upd hU (show ¬ w.heap.size=bp from V0)).below hb7 V0);have HB7:=Hi hb7;have HW7:=Hi hw7;have HBN:=Hi hbn;clear hT hS hU hb7 hw7 hbn HSx HUx HXx;go_wp2_with fail
 rw [HW7.out];refine (q37 w7 bp _ _ _ _ HS7.out).mono ?_;rintro e w8 ⟨rfl,hs8,hu8,hst8⟩;have h78:=hu8.size;have hn8:=HBN.out.upd hu8 (show ¬ w6.heap.size=bp from V0);obtain ⟨⟨g0,g1,g2,g3,g4,g5⟩,x0,x1,x2,x3,x4,x5⟩:=Blk.c6 hn8;have hn8l:=hn8.lt;have HS8:=Hi hs8;have HST8:=Hi hst8;have HU8:=Hi (HU7.out.trans hu8);have HX8:=Hi (HX7.out.upd hu8 (show ¬ w.heap.size=bp from V0));have HU78:=Hi hu8;clear hs8 hu8 hst8 hn8 HS7 HU7 HX7;go_wp2_with fail
 obtain ⟨w9,hw9,hb9,-⟩:=alK w8 #[.int .i64 (k:Int),.string ⟨s.toArray⟩,.int .u32 (m:Int),.int .i64 (a:Int),.slice A la cA,.slice B lb cB] 26;rw [hw9];refine (node w9 9 t.at_ sn _ 1 1).mono ?_;rintro e w10 ⟨rfl,hb10⟩;have hb89:Below w8.heap.size w8 w10:=hb9.trans (hb10.mono hb9.size);have hx:=HX8.out.below hb89 HX8.out.lt;obtain ⟨⟨e0,e1,e2,e3,e4,e5⟩,z0,z1,z2,z3,z4,z5⟩:=Blk.c6 hx;have H1:=Hi hx;have HB8:=Hi hb89;have HB10:=Hi hb10;have HW9:=Hi hw9;clear hx hb89 hb9 hb10 hw9 g0 g1 g2 g3 g4 g5 x0 x1 x2 x3 x4 x5;go_wp2_with fail
 refine bodyPost_ret (resNd rfl rfl (Blk.put6 H1.out _ _ _ _ _ _) rfl) rfl ?_;have hU10:UB bp w w10:=HU8.out.trans (q00 HB8.out);rcases HS8.out with ⟨l8,hq8,hg8,hl8,hE8⟩ | ⟨ba,er,t8,r8,he8,hE8,hq8⟩
 ·have hz:=HST.out.back (HST8.out.back (q4r hq8));have hT8:TIn (fun b=>w.heap.size+1<=b) w8 x (ndC k a s m A la cA B lb cB):=(((tup (HT6.out hz) (show w.heap.size+1<=wx.heap.size from V0)).upd (Upd.of_below HB7.out fun _=>False) (fun _ _ h=>h)).upd HU78.out fun b hb e=>V0);have hA:=ArrT.first (e:=26) hT8 V0;rw [show w8.alloc (.cells (ndC k a s m A la cA B lb cB).toArray 26)=w9 from HW9.out] at hA;have hN:=(hA.upd (Upd.of_below HB10.out fun _=>False) (fun _ h=>h.elim)).node V3 9 t.at_ 0 sn;exact V3m
 ·exact q1x 9 t.at_ 0 1 1 0 0 sn _ none hlt he8 hE8 (hq8.below HB8.out) hU10
end
end Pq
namespace Pa
open Lx Args
section
attribute [local go_sem] fTk0 fTk1 fTk2
theorem q5z{num:Bs->Nat×Nat}{d:Nat}{t:Tk}{r:List Tk}{o:Out}(hs:t.s=[115,101,99,114,101,116])(hk:2 < t.k)(h:InK 6 t.at_ r=some o):Rd num .stmt d (t :: r) o:=by
 refine q0k (K:=fun f=>InK 6 t.at_ r) (by rw [h];exact q09 _) fun f=>?_
 have hi:∀ b,isS b t=(t.s==b):=fun b=>V0s
 rw [st_];rw [if_pos (show isS [115,101,99,114,101,116] t=true from Vl)]
theorem q5A{num:Bs->Nat×Nat}{d:Nat}{t:Tk}{r:List Tk}{o:Out}(hs:t.s=[112,117,98,108,105,99])(hk:2 < t.k)(h:InK 7 t.at_ r=some o):Rd num .stmt d (t :: r) o:=by
 refine q0k (K:=fun f=>InK 7 t.at_ r) (by rw [h];exact q09 _) fun f=>?_
 have hi:∀ b,isS b t=(t.s==b):=fun b=>V0s
 rw [st_];rw [if_neg (show ¬ isS [115,101,99,114,101,116] t=true from Vl)];rw [if_pos (show isS [112,117,98,108,105,99] t=true from Vl)]
theorem r_out{num:Bs->Nat×Nat}{d:Nat}{t:Tk}{r:List Tk}{o:Out}(hs:t.s=[111,117,116])(hk:2 < t.k)(h:Ev (fun f=>SetK num f 8 t.at_ d r) o):Rd num .stmt d (t :: r) o:=by
 refine q0k (K:=fun f=>SetK num f 8 t.at_ d r) h fun f=>?_
 have hi:∀ b,isS b t=(t.s==b):=fun b=>V0s
 rw [st_];rw [if_neg (show ¬ isS [115,101,99,114,101,116] t=true from Vl)];rw [if_neg (show ¬ isS [112,117,98,108,105,99] t=true from Vl)];rw [if_pos (show isS [111,117,116] t=true from Vl)]
theorem q8K{num:Bs->Nat×Nat}{d:Nat}{t:Tk}{r:List Tk}{o:Out}(hs:t.s=[115,104,111,119])(hk:2 < t.k)(h:Ev (fun f=>SetK num f 9 t.at_ d r) o):Rd num .stmt d (t :: r) o:=by
 refine q0k (K:=fun f=>SetK num f 9 t.at_ d r) h fun f=>?_
 have hi:∀ b,isS b t=(t.s==b):=fun b=>V0s
 rw [st_];rw [if_neg (show ¬ isS [115,101,99,114,101,116] t=true from Vl)];rw [if_neg (show ¬ isS [112,117,98,108,105,99] t=true from Vl)];rw [if_neg (show ¬ isS [111,117,116] t=true from Vl)];rw [if_pos (show isS [115,104,111,119] t=true from Vl)]
theorem r_fn{num:Bs->Nat×Nat}{d:Nat}{t:Tk}{r:List Tk}{o:Out}(hs:t.s=[102,110])(hk:2 < t.k)(h:Ev (fun f=>FnK num f t.at_ d r) o):Rd num .stmt d (t :: r) o:=by
 refine q0k (K:=fun f=>FnK num f t.at_ d r) h fun f=>?_
 have hi:∀ b,isS b t=(t.s==b):=fun b=>V0s
 rw [st_];rw [if_neg (show ¬ isS [115,101,99,114,101,116] t=true from Vl)];rw [if_neg (show ¬ isS [112,117,98,108,105,99] t=true from Vl)];rw [if_neg (show ¬ isS [111,117,116] t=true from Vl)];rw [if_neg (show ¬ isS [115,104,111,119] t=true from Vl)];rw [if_pos (show isS [102,110] t=true from Vl)]
theorem q74{num:Bs->Nat×Nat}{d:Nat}{t:Tk}{r:List Tk}{o:Out}(h0:isS [115,101,99,114,101,116] t=false)(h1:isS [112,117,98,108,105,99] t=false)(h2:isS [111,117,116] t=false)(h3:isS [115,104,111,119] t=false)(h4:isS [102,110] t=false)(h:Rd num .inner 0 (t :: r) o):Rd num .stmt d (t :: r) o:=
 q0k h fun f=>by
  rw [st_,if_neg (by rw [h0];decide),if_neg (by rw [h1];decide),if_neg (by rw [h2];decide),if_neg (by rw [h3];decide),if_neg (by rw [h4];decide)]
theorem st_secret(w:World)(bp:Nat)(t:Tk)(r:List Tk)(hp:PS w bp (t :: r) 0)(hg:Gt (t :: r))(hs:t.s=[115,101,99,114,101,116]) :
  Calls Tryz.prog 124 #[.pointer (some ⟨bp,0,none⟩)] w (OutP w bp 0 (t :: r) (Rd numV .stmt 0 (t :: r))):=by
 have hlt:=hp.lt;obtain ⟨w0,hw0,hb0,hB⟩:=alK w #[.int .i64 0,.string ⟨#[]⟩,.int .u32 0,.int .i64 0,.slice none 0 0,.slice none 0 0] 26;have hk:2 < t.k:=q0u hg.hd V0E;have hn:=next w0 bp 0 t r (hp.below hb0);rw [hs] at hn;have HN:=Hi hn;have HSE:=Hi fun (w':World) (hb:Below w0.heap.size w0 w')=>(show Calls Tryz.prog 151 #[.pointer (some ⟨bp,0,none⟩),.int .i64 6] w' _ from inputs 6 w' bp 0 t r ((hp.below hb0).below hb) hg V0)
 have HU0:=Hi (q00 (bp:=bp) hb0);have HB:=Hi hB;have HW:=Hi hw0;have hlb:=hB.lt;clear hb0 hp hw0 hB hg hn;go_enter Tryz.func124,Tryz.ntmps124;go_wp2_with fail
 rw [HW.out];refine HN.out.mono ?_;rintro e w1 ⟨rfl,hb1⟩;have HL1:=Hi (HSE.out w1 hb1);have HU1:=Hi (HU0.out.trans (q00 hb1));have HX1:=Hi (HB.out.below hb1 HB.out.lt);have h01:=hb1.size;clear hb1 HSE;go_wp2_with fail
 refine HL1.out.mono ?_;rintro e w2 (⟨k,a,s,m,A,la,cA,B,lb,cB,x,r',rfl,hT,hR,hP,hG,hr,hU⟩ | ⟨a,er,rfl,hR,hU⟩)
 ·have hX:=HX1.out.upd hU (show ¬ w.heap.size=bp from V0);obtain ⟨⟨e0,e1,e2,e3,e4,e5⟩,z0,z1,z2,z3,z4,z5⟩:=Blk.c6 hX;have HX:=Hi hX;have HT:=Hi hT;have HR:=Hi (q5z (num:=numV) (d:=0) hs hk hR);have HP:=Hi hP;have HG:=Hi hG;have HU:=Hi (HU1.out.trans hU);exact VS
 ·have HR:=Hi (q5z (num:=numV) (d:=0) hs hk hR);have HU:=Hi (HU1.out.trans hU);exact Vw
theorem st_public(w:World)(bp:Nat)(t:Tk)(r:List Tk)(hp:PS w bp (t :: r) 0)(hg:Gt (t :: r))(hs:t.s=[112,117,98,108,105,99]) :
  Calls Tryz.prog 124 #[.pointer (some ⟨bp,0,none⟩)] w (OutP w bp 0 (t :: r) (Rd numV .stmt 0 (t :: r))):=by
 have hlt:=hp.lt;obtain ⟨w0,hw0,hb0,hB⟩:=alK w #[.int .i64 0,.string ⟨#[]⟩,.int .u32 0,.int .i64 0,.slice none 0 0,.slice none 0 0] 26;have hk:2 < t.k:=q0u hg.hd V0E;have hn:=next w0 bp 0 t r (hp.below hb0);rw [hs] at hn;have HN:=Hi hn;have HSE:=Hi fun (w':World) (hb:Below w0.heap.size w0 w')=>(show Calls Tryz.prog 151 #[.pointer (some ⟨bp,0,none⟩),.int .i64 7] w' _ from inputs 7 w' bp 0 t r ((hp.below hb0).below hb) hg V0)
 have HU0:=Hi (q00 (bp:=bp) hb0);have HB:=Hi hB;have HW:=Hi hw0;have hlb:=hB.lt;clear hb0 hp hw0 hB hg hn;go_enter Tryz.func124,Tryz.ntmps124;go_wp2_with fail
 rw [HW.out];refine HN.out.mono ?_;rintro e w1 ⟨rfl,hb1⟩;have HL1:=Hi (HSE.out w1 hb1);have HU1:=Hi (HU0.out.trans (q00 hb1));have HX1:=Hi (HB.out.below hb1 HB.out.lt);have h01:=hb1.size;clear hb1 HSE;go_wp2_with fail
 refine HL1.out.mono ?_;rintro e w2 (⟨k,a,s,m,A,la,cA,B,lb,cB,x,r',rfl,hT,hR,hP,hG,hr,hU⟩ | ⟨a,er,rfl,hR,hU⟩)
 ·have hX:=HX1.out.upd hU (show ¬ w.heap.size=bp from V0);obtain ⟨⟨e0,e1,e2,e3,e4,e5⟩,z0,z1,z2,z3,z4,z5⟩:=Blk.c6 hX;have HX:=Hi hX;have HT:=Hi hT;have HR:=Hi (q5A (num:=numV) (d:=0) hs hk hR);have HP:=Hi hP;have HG:=Hi hG;have HU:=Hi (HU1.out.trans hU);exact VS
 ·have HR:=Hi (q5A (num:=numV) (d:=0) hs hk hR);have HU:=Hi (HU1.out.trans hU);exact Vw
theorem st_out(w:World)(bp:Nat)(t:Tk)(r:List Tk)(hp:PS w bp (t :: r) 0)(hg:Gt (t :: r))(hs:t.s=[111,117,116]) :
  Calls Tryz.prog 124 #[.pointer (some ⟨bp,0,none⟩)] w (OutP w bp 0 (t :: r) (Rd numV .stmt 0 (t :: r))):=by
 have hlt:=hp.lt;obtain ⟨w0,hw0,hb0,hB⟩:=alK w #[.int .i64 0,.string ⟨#[]⟩,.int .u32 0,.int .i64 0,.slice none 0 0,.slice none 0 0] 26;have hk:2 < t.k:=q0u hg.hd V0E;have hn:=next w0 bp 0 t r (hp.below hb0);rw [hs] at hn;have HN:=Hi hn;have hgr:=hg.tail V0;obtain ⟨t2,r2,hr2⟩:=hgr.cons;have htk:=fun (w':World) (hb:Below w0.heap.size w0 w')=>take w' bp 0 t r ((hp.below hb0).below hb) Vi
 have HTK:=Hi htk;have HSE:=Hi fun (w':World) (h:PS w' bp r 0)=>(show Calls Tryz.prog 152 #[.pointer (some ⟨bp,0,none⟩),.int .i64 8,.int .i64 (t.at_:Int)] w' _ from set 8 t.at_ w' bp 0 r V0 h hgr)
 have HU0:=Hi (q00 (bp:=bp) hb0);have HB:=Hi hB;have HW:=Hi hw0;have hlb:=hB.lt;clear hb0 hp hw0 hB hg hn htk hgr hr2;go_enter Tryz.func124,Tryz.ntmps124;go_wp2_with fail
 rw [HW.out];refine HN.out.mono ?_;rintro e wx ⟨rfl,hbx⟩;have HT1:=Hi (HTK.out wx hbx);have HUx:=Hi (HU0.out.trans (q00 hbx));have HXx:=Hi (HB.out.below hbx HB.out.lt);have h0x:=hbx.size;clear hbx HTK;go_wp2_with fail
 refine HT1.out.mono ?_;rintro e w1 ⟨rfl,hp1,hu1⟩;have HL1:=Hi (HSE.out w1 hp1);have HU1:=Hi (HUx.out.trans hu1);have HX1:=Hi (HXx.out.upd hu1 V0);have h01:=hu1.size;clear hp1 hu1 HSE;go_wp2_with fail
 refine HL1.out.mono ?_;rintro e w2 (⟨k,a,s,m,A,la,cA,B,lb,cB,x,r',rfl,hT,hR,hP,hG,hr,hU⟩ | ⟨a,er,rfl,hR,hU⟩)
 ·have hX:=HX1.out.upd hU (show ¬ w.heap.size=bp from V0);obtain ⟨⟨e0,e1,e2,e3,e4,e5⟩,z0,z1,z2,z3,z4,z5⟩:=Blk.c6 hX;have HX:=Hi hX;have HT:=Hi hT;have HR:=Hi (r_out (num:=numV) (d:=0) hs hk hR);have HP:=Hi hP;have HG:=Hi hG;have HU:=Hi (HU1.out.trans hU);exact V2I
 ·have HR:=Hi (r_out (num:=numV) (d:=0) hs hk hR);have HU:=Hi (HU1.out.trans hU);exact Vw
theorem st_show(w:World)(bp:Nat)(t:Tk)(r:List Tk)(hp:PS w bp (t :: r) 0)(hg:Gt (t :: r))(hs:t.s=[115,104,111,119]) :
  Calls Tryz.prog 124 #[.pointer (some ⟨bp,0,none⟩)] w (OutP w bp 0 (t :: r) (Rd numV .stmt 0 (t :: r))):=by
 have hlt:=hp.lt;obtain ⟨w0,hw0,hb0,hB⟩:=alK w #[.int .i64 0,.string ⟨#[]⟩,.int .u32 0,.int .i64 0,.slice none 0 0,.slice none 0 0] 26;have hk:2 < t.k:=q0u hg.hd V0E;have hn:=next w0 bp 0 t r (hp.below hb0);rw [hs] at hn;have HN:=Hi hn;have hgr:=hg.tail V0;obtain ⟨t2,r2,hr2⟩:=hgr.cons;have htk:=fun (w':World) (hb:Below w0.heap.size w0 w')=>take w' bp 0 t r ((hp.below hb0).below hb) Vi
 have HTK:=Hi htk;have HSE:=Hi fun (w':World) (h:PS w' bp r 0)=>(show Calls Tryz.prog 152 #[.pointer (some ⟨bp,0,none⟩),.int .i64 9,.int .i64 (t.at_:Int)] w' _ from set 9 t.at_ w' bp 0 r V0 h hgr)
 have HU0:=Hi (q00 (bp:=bp) hb0);have HB:=Hi hB;have HW:=Hi hw0;have hlb:=hB.lt;clear hb0 hp hw0 hB hg hn htk hgr hr2;go_enter Tryz.func124,Tryz.ntmps124;go_wp2_with fail
 rw [HW.out];refine HN.out.mono ?_;rintro e wx ⟨rfl,hbx⟩;have HT1:=Hi (HTK.out wx hbx);have HUx:=Hi (HU0.out.trans (q00 hbx));have HXx:=Hi (HB.out.below hbx HB.out.lt);have h0x:=hbx.size;clear hbx HTK;go_wp2_with fail
 refine HT1.out.mono ?_;rintro e w1 ⟨rfl,hp1,hu1⟩;have HL1:=Hi (HSE.out w1 hp1);have HU1:=Hi (HUx.out.trans hu1);have HX1:=Hi (HXx.out.upd hu1 V0);have h01:=hu1.size;clear hp1 hu1 HSE;go_wp2_with fail
 refine HL1.out.mono ?_;rintro e w2 (⟨k,a,s,m,A,la,cA,B,lb,cB,x,r',rfl,hT,hR,hP,hG,hr,hU⟩ | ⟨a,er,rfl,hR,hU⟩)
 ·have hX:=HX1.out.upd hU (show ¬ w.heap.size=bp from V0);obtain ⟨⟨e0,e1,e2,e3,e4,e5⟩,z0,z1,z2,z3,z4,z5⟩:=Blk.c6 hX;have HX:=Hi hX;have HT:=Hi hT;have HR:=Hi (q8K (num:=numV) (d:=0) hs hk hR);have HP:=Hi hP;have HG:=Hi hG;have HU:=Hi (HU1.out.trans hU);exact V2I
 ·have HR:=Hi (q8K (num:=numV) (d:=0) hs hk hR);have HU:=Hi (HU1.out.trans hU);exact Vw
theorem st_fn(w:World)(bp:Nat)(t:Tk)(r:List Tk)(hp:PS w bp (t :: r) 0)(hg:Gt (t :: r))(hs:t.s=[102,110]) :
  Calls Tryz.prog 124 #[.pointer (some ⟨bp,0,none⟩)] w (OutP w bp 0 (t :: r) (Rd numV .stmt 0 (t :: r))):=by
 have hlt:=hp.lt;obtain ⟨w0,hw0,hb0,hB⟩:=alK w #[.int .i64 0,.string ⟨#[]⟩,.int .u32 0,.int .i64 0,.slice none 0 0,.slice none 0 0] 26;have hk:2 < t.k:=q0u hg.hd V0E;have hn:=next w0 bp 0 t r (hp.below hb0);rw [hs] at hn;have HN:=Hi hn;have HSE:=Hi fun (w':World) (hb:Below w0.heap.size w0 w')=>function w' bp 0 t r V0 ((hp.below hb0).below hb) hg (by rw [q0n hg.hd V2,hs];decide)
 have HU0:=Hi (q00 (bp:=bp) hb0);have HB:=Hi hB;have HW:=Hi hw0;have hlb:=hB.lt;clear hb0 hp hw0 hB hg hn;go_enter Tryz.func124,Tryz.ntmps124;go_wp2_with fail
 rw [HW.out];refine HN.out.mono ?_;rintro e w1 ⟨rfl,hb1⟩;have HL1:=Hi (HSE.out w1 hb1);have HU1:=Hi (HU0.out.trans (q00 hb1));have HX1:=Hi (HB.out.below hb1 HB.out.lt);have h01:=hb1.size;clear hb1 HSE;go_wp2_with fail
 refine HL1.out.mono ?_;rintro e w2 (⟨k,a,s,m,A,la,cA,B,lb,cB,x,r',rfl,hT,hR,hP,hG,hr,hU⟩ | ⟨a,er,rfl,hR,hU⟩)
 ·have hX:=HX1.out.upd hU (show ¬ w.heap.size=bp from V0);obtain ⟨⟨e0,e1,e2,e3,e4,e5⟩,z0,z1,z2,z3,z4,z5⟩:=Blk.c6 hX;have HX:=Hi hX;have HT:=Hi hT;have HR:=Hi (r_fn (num:=numV) (d:=0) hs hk hR);have HP:=Hi hP;have HG:=Hi hG;have HU:=Hi (HU1.out.trans hU);exact VS
 ·have HR:=Hi (r_fn (num:=numV) (d:=0) hs hk hR);have HU:=Hi (HU1.out.trans hU);exact Vw
theorem q8b(w:World)(bp:Nat)(t:Tk)(r:List Tk)(hp:PS w bp (t :: r) 0)(hg:Gt (t :: r))(h0:isS [115,101,99,114,101,116] t=false)(h1:isS [112,117,98,108,105,99] t=false)(h2:isS [111,117,116] t=false)(h3:isS [115,104,111,119] t=false)(h4:isS [102,110] t=false) :
  Calls Tryz.prog 124 #[.pointer (some ⟨bp,0,none⟩)] w (OutP w bp 0 (t :: r) (Rd numV .stmt 0 (t :: r))):=by
 have hlt:=hp.lt;obtain ⟨w0,hw0,hb0,hB⟩:=alK w #[.int .i64 0,.string ⟨#[]⟩,.int .u32 0,.int .i64 0,.slice none 0 0,.slice none 0 0] 26;have hq0:=h0;have hq1:=h1;have hq2:=h2;have hq3:=h3;have hq4:=h4;rw [q0n hg.hd V2] at hq0 hq1 hq2 hq3 hq4;have HN:=Hi (next w0 bp 0 t r (hp.below hb0));have HHS:=Hi (show isS [115,101,99,114,101,116] t=false/\isS [112,117,98,108,105,99] t=false/\isS [111,117,116] t=false/\isS [115,104,111,119] t=false/\isS [102,110] t=false from ⟨h0,h1,h2,h3,h4⟩);have HSE:=Hi fun (w':World) (hb:Below w0.heap.size w0 w')=>inn (t :: r).length w' bp 0 (t :: r) (Nat.le_refl _) V0 ((hp.below hb0).below hb) hg
 have HU0:=Hi (q00 (bp:=bp) hb0);have HB:=Hi hB;have HW:=Hi hw0;have hlb:=hB.lt;clear hb0 hp hw0 hB hg h0 h1 h2 h3 h4;go_enter Tryz.func124,Tryz.ntmps124;go_wp2_with fail
 rw [HW.out];refine HN.out.mono ?_;rintro e w1 ⟨rfl,hb1⟩;have HL1:=Hi (HSE.out w1 hb1);have HU1:=Hi (HU0.out.trans (q00 hb1));have HX1:=Hi (HB.out.below hb1 HB.out.lt);have h01:=hb1.size;clear hb1 HSE;go_wp2_with fail
 refine HL1.out.mono ?_;rintro e w2 (⟨k,a,s,m,A,la,cA,B,lb,cB,x,r',rfl,hT,hR,hP,hG,hr,hU⟩ | ⟨a,er,rfl,hR,hU⟩)
 ·have hX:=HX1.out.upd hU (show ¬ w.heap.size=bp from V0);obtain ⟨⟨e0,e1,e2,e3,e4,e5⟩,z0,z1,z2,z3,z4,z5⟩:=Blk.c6 hX;have HX:=Hi hX;have HT:=Hi hT;have HR:=Hi (q74 (num:=numV) (d:=0) HHS.out.1 HHS.out.2.1 HHS.out.2.2.1 HHS.out.2.2.2.1 HHS.out.2.2.2.2 hR);have HP:=Hi hP;have HG:=Hi hG;have HU:=Hi (HU1.out.trans hU);exact VS
 ·have HR:=Hi (q74 (num:=numV) (d:=0) HHS.out.1 HHS.out.2.1 HHS.out.2.2.1 HHS.out.2.2.2.1 HHS.out.2.2.2.2 hR);have HU:=Hi (HU1.out.trans hU);exact Vw
theorem statement(w:World)(bp:Nat)(t:Tk)(r:List Tk)(hp:PS w bp (t :: r) 0)(hg:Gt (t :: r)) :
  Calls Tryz.prog 124 #[.pointer (some ⟨bp,0,none⟩)] w (OutP w bp 0 (t :: r) (Rd numV .stmt 0 (t :: r))):=by
 by_cases h0:t.s=[115,101,99,114,101,116]
 ·exact st_secret w bp t r hp hg h0
 by_cases h1:t.s=[112,117,98,108,105,99]
 ·exact st_public w bp t r hp hg h1
 by_cases h2:t.s=[111,117,116]
 ·exact st_out w bp t r hp hg h2
 by_cases h3:t.s=[115,104,111,119]
 ·exact st_show w bp t r hp hg h3
 by_cases h4:t.s=[102,110]
 ·exact st_fn w bp t r hp hg h4
 have hi:∀ b,t.s≠b->isS b t=false:=fun b h=>by unfold isS;simp [h]
 exact q8b w bp t r hp hg (hi _ h0) (hi _ h1) (hi _ h2) (hi _ h3) (hi _ h4)
end
section
attribute [local go_sem] fTk0 fTk1 fTk2
theorem ArrT.none(e:TypeId){lo:Nat}(w1:World)(hlo:lo<=w1.heap.size):ArrT e lo (w1.alloc (.cells #[] e)) w1.heap.size 0 []:=
 ⟨[],q1A w1 hlo e 6 0 [] rfl V2,V0z⟩
def hdA:List Tk->Nat
 | []=>0
 | t :: _=>t.at_
def ProgR(l:List Tk):Out->Prop
 | .ok xs r=>∃ zs,xs=[.mk 13 (hdA l) [] 0 [] zs]/\Rd numV (.stmts []) 0 l (.ok zs r)/\∃ e r',r=e :: r'/\e.k = 0
 | .bad a e=>Rd numV (.stmts []) 0 l (.bad a e)
abbrev tX:Tk:=⟨0,[],0⟩
structure PgI(w:World)(bp:Nat)(l:List Tk)(zs:List Tr)(l':List Tk)(g c:Nat)(W:World):Prop where
 rd:∀ o,Rd numV (.stmts zs) 0 l' o->Rd numV (.stmts []) 0 l o
 ps:PS W bp l' 0
 gt:Gt l'
 lt:l'.length<=l.length
 arr:ArrT 26 (w.heap.size+1) W g c zs
 few:zs.length+l'.length<=4000
 ub:UB bp w W
 res:Blk W w.heap.size 26 #[.int .i64 0,.string ⟨#[]⟩,.int .u32 0,.int .i64 0,.slice none 0 0,.slice none 0 0]
theorem program(w:World)(bp:Nat)(l:List Tk)(hp:PS w bp l 0)(hg:Gt l) :
  Calls Tryz.prog 97 #[.pointer (some ⟨bp,0,none⟩)] w (OutP w bp 0 (tX :: l) (ProgR l)):=by
 have hlt:=hp.lt;have hfw:=hg.few;obtain ⟨i0,hi,hz⟩:=Option.map_eq_some_iff.1 infoNd;have hz0:=congrArg (·.1) hz;have hz1:=congrArg (·.2.1) hz;have hz2:=congrArg (·.2.2) hz;have HI:=Hi hi;have HZ0:=Hi hz0;have HZ1:=Hi hz1;have HZ2:=Hi hz2;clear hi hz hz0 hz1 hz2;obtain ⟨t,r,rfl⟩:=hg.cons;obtain ⟨w0,hw0,hb0,hB⟩:=alK w #[.int .i64 0,.string ⟨#[]⟩,.int .u32 0,.int .i64 0,.slice none 0 0,.slice none 0 0] 26;have HN:=Hi (next w0 bp 0 t r (hp.below hb0));have HP0:=Hi (hp.below hb0);have HG:=Hi hg;have HU0:=Hi (q00 (bp:=bp) hb0);have HB:=Hi hB;have HW:=Hi hw0;have hlb:=hB.lt;clear hb0 hp hw0 hB hg;go_enter Tryz.func97,Tryz.ntmps97;go_wp2_with fail
 rw [HW.out];refine HN.out.mono ?_;rintro e w1 ⟨rfl,hb1⟩;have h01:=hb1.size;have HJ:Hid (PgI w bp (t :: r) [] (t :: r) w1.heap.size 0 (w1.alloc (.cells #[] 26))):=Hi ⟨fun o h=>h,(HP0.out.below hb1).below ((Below.refl _ _).alloc (Nat.le_refl _) _),HG.out,Nat.le_refl _,ArrT.none 26 w1 V0,by simpa using hfw,(HU0.out.trans (q00 hb1)).alloc _,(HB.out.below hb1 HB.out.lt).alloc _⟩;clear hb1 HN HP0;go_wp2_with fail
 go_loopw [4] (fun vl wr=>∃ zs l' g c,vl = .slice (some ⟨g,0,none⟩) zs.length c/\Hid (PgI w bp (t :: r) zs l' g c wr)) (fun _ wr=>lenAt wr bp)
 case atStart=>exact ⟨[],t :: r,_,_,rfl,HJ⟩
 case round=>
  clear HJ;obtain ⟨zs,l',g,c,rfl,HH⟩:=hrel;obtain ⟨t',r',rfl⟩:=HH.out.gt.cons;have HNX:=Hi (next wr bp 0 t' r' HH.out.ps);by_cases hk:t'.k = 0
  ·have hq:((t'.k:Int) != 0)=false:=by simp;omega
   go_wp2_with fail
   refine HNX.out.mono ?_;rintro e w2 ⟨rfl,hb2⟩;have HNO:=Hi (show Calls Tryz.prog 125 #[.int .i64 13,.string ⟨#[]⟩,.int .i64 (t.at_:Int),.slice (some ⟨g,0,none⟩) zs.length c] w2 _ from node w2 13 t.at_ [] (some ⟨g,0,none⟩) zs.length c);have HB2:=Hi hb2;clear hb2 HNX;go_wp2_with fail
   refine HNO.out.mono ?_;rintro e w3 ⟨rfl,hb3⟩;have hb3':=HB2.out.trans (hb3.mono HB2.out.size);have hX:=HH.out.res.below hb3' HH.out.res.lt;obtain ⟨⟨e0,e1,e2,e3,e4,e5⟩,z0,z1,z2,z3,z4,z5⟩:=Blk.c6 hX;have HX3:=Hi hX;have HB3:=Hi hb3';clear hX hb3 hb3';have hfz:=HH.out.few;have hle:=HH.out.lt;simp only [List.length_cons] at hfz hle;have HT3:=Hi (TIn.far (HH.out.arr.node V0 13 t.at_ 0 []) (Upd.of_below HB3.out fun _=>False) (fun _ h=>h.elim));go_wp2_with fail
   exact bodyPost_ret (resNd rfl rfl (Blk.put6 HX3.out _ _ _ _ _ _) rfl) rfl (q0J hlt (Nat.lt_succ_self _) HT3.out (show ProgR (t :: r) (.ok [.mk 13 t.at_ [] 0 [] zs] (t' :: r')) from ⟨zs,rfl,HH.out.rd _ (q4O hk),t',r',rfl,hk⟩) (HH.out.ps.below HB3.out) HH.out.gt VD (HH.out.ub.trans (q00 HB3.out)))
  ·have hq:((t'.k:Int) != 0)=true:=by simp;omega
   have HST:=Hi fun (w':World) (hb:Below wr.heap.size wr w')=>statement w' bp t' r' (HH.out.ps.below hb) HH.out.gt
   go_wp2_with fail
   refine HNX.out.mono ?_;rintro e w10 ⟨rfl,hb10⟩;have HW10:=Hi (HST.out w10 hb10);have HB10:=Hi hb10;clear hb10 HST HNX;go_wp2_with fail
   refine HW10.out.mono ?_;rintro e w11 (⟨k',a',s',m',A2,la2,cA2,B2,lb2,cB2,x',r11,rfl,hT,hR,hP,hG,hr,hU⟩ | ⟨a',er,rfl,hR,hU⟩);rotate_left
   ·have HR:=Hi (HH.out.rd _ (q4P hk hR));have HU11:=Hi ((HH.out.ub.trans (q00 HB10.out)).trans hU);exact V3V
   obtain ⟨css,how,hts⟩:=HH.out.arr;have hu11:UB bp wr w11:=(q00 HB10.out).trans hU;have hT11:TIn (fun b=>wr.heap.size<=b) w11 x' (ndC k' a' s' m' A2 la2 cA2 B2 lb2 cB2):=hT.up HB10.out.size;have HOA:=Hi (World.ownsRow.alloc (q0X how hu11 V0U) (.cells #[.int .i64 (k':Int),.string ⟨s'.toArray⟩,.int .u32 (m':Int),.int .i64 (a':Int),.slice A2 la2 cA2,.slice B2 lb2 cB2] 26));have HLI:=Hi (q0c w11 26 (ndC k' a' s' m' A2 la2 cA2 B2 lb2 cB2));have hsz:w.heap.size+1<=w11.heap.size:=by have:=HH.out.res.lt;have:=hu11.size;omega
   have HBS:=Hi (show w.heap.size+1<=(w11.alloc (.cells #[.int .i64 (k':Int),.string ⟨s'.toArray⟩,.int .u32 (m':Int),.int .i64 (a':Int),.slice A2 la2 cA2,.slice B2 lb2 cB2] 26)).heap.size from V4);have hfew:=HH.out.few;have hle:=HH.out.lt;simp only [List.length_cons] at hfew hle hr;have HOW:=Hi how;have HTS:=Hi hts;have HU11:=Hi hu11;have HT11:=Hi hT11;have HR11:=Hi hR;have HP11:=Hi hP;have HG11:=Hi hG;clear how hts hu11 hT11 hT hR hP hG hU hsz;go_wp2_with (at_builtin;refine q0l rfl _ _ 23 rfl (w.heap.size+1) 26 i0 (.agg #[.int .i64 0,.string ⟨#[]⟩,.int .u32 0,.int .i64 0,.slice none 0 0,.slice none 0 0]) 6 88 Tryz.underlying23 HI.out HZ0.out HZ1.out HZ2.out rfl V2 _ zs.length _ rfl HOA.out ⟨w11.heap.size,0,none⟩ 1 1 (ndC k' a' s' m' A2 la2 cA2 B2 lb2 cB2) rfl rfl HLI.out V0q Va V0 HBS.out V2 ?_;intro g8 c8 w12 hE;have HE8:=Hi hE;clear hE)
   have HSP:=Hi (q1P HOW.out HTS.out V0 HU11.out HT11.out HE8.out);have hgw:=(q13 HOW.out).1;have HJ8:Hid (PgI w bp (t :: r) (zs ++ [x']) r11 g8 c8 w12):=Hi ⟨fun o h=>HH.out.rd o (r_stmts hk HR11.out h),HP11.out.far HSP.out.2.2 fun b hb=>V0,HG11.out,VD,HSP.out.1,V4,HSP.out.2.1 w V0 HH.out.ub,(HH.out.res.upd HU11.out V0).upd HSP.out.2.2 V0⟩
   go_roundw
   case rel=>exact ⟨zs ++ [x'],r11,g8,c8,V0p,HJ8⟩
   case measure=>
    exact V41
end
end Pa
end Go.Proofs.YtcgibpdjfgjldaaGreatDoor
