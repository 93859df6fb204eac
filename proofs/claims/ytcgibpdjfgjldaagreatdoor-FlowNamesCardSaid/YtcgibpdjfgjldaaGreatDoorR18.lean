/- DERIVED. NmStm. By an AI agent. -/
import Derived.Test.YtcgibpdjfgjldaaGreatDoorR10
set_option maxRecDepth 100000
set_option maxHeartbeats 8000000
set_option linter.unusedVariables false
set_option linter.unusedSimpArgs false
open Go Go.ChangeShapes Go.WideShapes Go.ChangeAt Go.RowKit
namespace Go.Proofs.YtcgibpdjfgjldaaGreatDoor
namespace Nm
open Lx Args Pa Sh
theorem st6(w0 w:World)(N:Nat->Prop)(lo g:Nat)(c:St)(m:Nat)(a:Int)(s:Bs)(n:Nat)(A:Option Addr)(la cA:Nat)(B:Option Addr)(cB:Nat)(ps:List Bs)(hb:Below w0.heap.size w0 w)(hB:Af w0 B (ps.map ai))(hps:ps.length<=maxLen)(hpl:∀ p∈ps,p.length<=maxLen)
  (hN:∀ b,N b->w0.heap.size<=b) (hc:CK N lo w g c m) (hm:m+ps.length<=1099511627776) :
  Calls Tryz.prog 119 #[.pointer (some ⟨g,0,none⟩),aO 6 a s n A la cA B ps.length cB] w (Ag N lo w g (bndR (inB a ps c) fun d=>.ok { d with se:=d.se ++ ps }) (m+ps.length)):=by
 obtain ⟨i0,hi,hz⟩:=Option.map_eq_some_iff.1 infoS;have hz0:=congrArg (·.1) hz;have hz1:=congrArg (·.2.1) hz;have hz2:=congrArg (·.2.2) hz;have HI:=Hi hi;have HZ0:=Hi hz0;have HZ1:=Hi hz1;have HZ2:=Hi hz2;clear hi hz hz0 hz1 hz2;obtain ⟨wn,hwn,hbn,aK,hsn⟩:=dw w (nB 6 a s n A la cA B ps.length cB);have hpm:ps.length<=9223372036854775807:=hps;have hb0:=hb.trans (hbn.mono hb.size);have hC0:=q0e hc hbn;have HIN:=Hi (inputs w0 wn (In2 N w wn) lo g c m 6 a s n A la cA B cB ps hb0 hB hps hpl (q0U (w:=w) hN (Nat.le_trans hb.size hbn.size)) hC0 hm);have HC0:=Hi hC0;have Bc:=Hi (Upd.of_below hbn N);have HX0:=Hi aK;have HW:=Hi hwn;have HB0:=Hi hb0;have HB:=Hi hB;have HM:=Hi hm;have HN:=Hi (q0U (w:=w) hN (Nat.le_trans hb.size hbn.size));have HSN:=Hi hsn;have HSE:=Hi (show c.se.length<=m from hc.bd.1);obtain ⟨res,hres⟩:∃ res,bndR (inB a ps c) (fun d=>.ok { d with se:=d.se ++ ps })=res:=⟨_,rfl⟩;rw [hres];have Ad:=Hi hres;have HEX:=Hi (fun d (h:inB a ps c = .ok d)=>(q3k h).2.1);generalize inB a ps c=r1 at HIN Ad HEX;obtain ⟨⟨e0,e1,e2,e3,e4,e5⟩,z0,z1,z2,z3,z4,z5⟩:=Aa.c6 aK;clear hc hbn aK hwn hb hB hpl hm hN hps hres hsn hb0 hC0;go_enter Tryz.func119,Tryz.ntmps119;go_wp2_with fail
 rw [HW.out];refine (show Calls Tryz.prog 142 #[.pointer (some ⟨g,0,none⟩),aO 6 a s n A la cA B ps.length cB] wn _ from HIN.out).mono ?_;intro e w1 h1;clear e0 e1 e2 e3 e4 e5 z0 z1 z2 z3 z4 z5;cases r1 with
 | bad a1=>
  exact V2J
 | ok d=>
 obtain ⟨rfl,hc1,hu1⟩:=h1;have AL:=Hi (show Rs.ok { d with se:=d.se ++ ps }=res from Ad.out);have HC1:=Hi (q1v hc1 (Nat.le_refl _));have Aj:=Hi (q0i Bc.out hu1 V9);have HB1:=Hi (q0V HB0.out hu1 HN.out);have AP:=Hi (HX0.out.upd hu1 fun h=>by
  exact V1w)
 have hs1:=hu1.size;have hdr:Below w1.heap.size w1 w1.drew:=Below.drew (Below.refl _ _);obtain ⟨wz,hwd⟩:∃ v,w1.drew=v:=⟨_,rfl⟩;rw [hwd] at hdr;have HXz:=Hi (AP.out.below hdr AP.out.lt);have HUz:=Hi (dm Aj.out (Upd.of_below hdr fun _=>False) fun _ h=>h.elim);have HBz:=Hi (HB1.out.trans (hdr.mono HB1.out.size));obtain ⟨⟨vs,vp,vo,ve,kb,ob,hv⟩,hbd,henl⟩:=HC1.out.below hdr;have HVz:=Hi hv;have Az:=Hi hbd;have HENL:=Hi henl;have hlse:d.se.length<=m:=by rw [HEX.out d rfl];exact HSE.out
 have HNV:=Hi (show ¬ (vs.ownBlock=some w.heap.size\/w.heap.size=g) from fun h=>by
  exact V3m)
 have HGV:=Hi (show vs.ownBlock≠some g by have h:=hv.ne;exact h.1.2.2.1);have aa:Upd (fun b=>vs.ownBlock=some b\/b=g) wz wz:=Upd.refl _ _;have hS0:Upd (fun b=>vs.ownBlock=some b) wz wz:=Upd.refl _ _;have HLz:=Hi (HB.out.below HBz.out);have hlo4:lo<=wz.heap.size:=hv.lo_.2.2.2;have hlim:m+ps.length<=1099511627776:=HM.out;clear hc1 hu1 hdr hv hbd henl HEX Ad;go_wp2_with fail
 refine HT.wp_region (Z:=fun w'=>Upd (fun b=>vs.ownBlock=some b\/b=g) wz w') (S:=fun w'=>Upd (fun b=>vs.ownBlock=some b) wz w') (st:=[12]) V1 ?_;rw [hwd];clear hwd;refine HT.tm 0 rfl aa (fun _=>hS0) ?_;refine HT.tm 1 rfl aa (fun _=>hS0) ?_;refine HT.tm 2 rfl aa (fun _=>hS0) ?_;refine HT.tm 3 rfl aa (fun _=>hS0) ?_;refine HT.tm 4 rfl aa (fun _=>hS0) ?_;refine HT.ts 5 rfl V1m aa hS0 ?_;refine HT.tk 6 rfl Vr aa (fun _=>hS0) ?_;refine HT.tk 7 rfl Vr aa (fun _=>hS0) ?_;refine HT.one (i:=8) V1 rfl (fun K hK=>?_);refine q0b rfl _ _ 24 rfl lo 9 i0 (.string ⟨#[]⟩) 1 16 Tryz.underlying24 HI.out HZ0.out HZ1.out HZ2.out rfl V2 vs d.se.length _ rfl HVz.out.os B ps.length cB (ps.map ai) rfl V3 HLz.out V4d V6 V0 hlo4 ?_;intro v' w8 hown hgrow hat;obtain ⟨vA,vc,rfl⟩:=q07 hown;have aV:Upd (fun b=>vs.ownBlock=some b) wz w8:=hS0.grown hgrow fun b hb _=>hb
 have bR:Upd (fun b=>vs.ownBlock=some b\/b=g) wz w8:=aV.mono fun b hb=>.inl hb
 (try dsimp only);refine hK.out _ _ bR aV ?_;clear hK K;(try simp only [HT.pS]);refine HT.tm 9 rfl bR (fun _=>aV) ?_;refine HT.tm 10 rfl bR (fun _=>aV) ?_;refine HT.tm 11 rfl bR (fun _=>aV) ?_;have hG8:=HVz.out.blk.upd aV HGV.out;obtain ⟨⟨c0,c1,c2,c3,c4,c5⟩,y0,y1,y2,y3,y4,y5⟩:=Aa.c6 hG8;have hg8:=hG8.lt;refine HT.oneS (i:=12) V1 V1 rfl (fun K hK=>?_);go_simp;refine hK.out _ _ (bR.setCell (p:=⟨g,0,none⟩) (fun _=>.inr rfl) _) ?_;clear hK K;(try simp only [HT.pS]);refine HT.done V1 ?_;have hown':w8.ownsRow lo 9 1 (.slice vA (d.se.length+ps.length) vc) (d.se ++ ps).length ((d.se ++ ps).map ai):=by
  rw [List.length_append,List.map_append];exact hown
 have hfin:=HVz.out.vs' (se':=d.se ++ ps) aV hown' (hat.imp id fun h=>⟨_,Nat.le_refl _,h⟩);have Ac:=Hi (show Ag N lo w g res (m+ps.length) (.returned (.tuple #[])) (w8.setCell ⟨g,0,none⟩ (.slice vA (d.se.length+ps.length) vc)) from by
  rw [<-AL.out];have hb:=Az.out;refine ⟨rfl,⟨⟨_,vp,vo,ve,kb,ob,hfin.mono fun b hb _ _=>?_⟩,⟨V49,hb.2.1,hb.2.2.1,hb.2.2.2⟩,HENL.out⟩,?_⟩
  ·exact V1k
  ·exact q0i HUz.out ((aV.mono (Y:=In2 N w wn) fun b hb=>HVz.out.bY _ V3 b hb).setCell (p:=⟨g,0,none⟩) (fun _=>HVz.out.bY _ V3 g rfl) _) V9)
 clear hown hown' hat hfin hgrow aV bR hG8 c0 c1 c2 c3 c4 c5 y0 y1 y2 y3 y4 y5 hg8 aa hS0;go_wp2_with fail
 first | go_end0 | skip
 all_goals first | exact Ac.out | exact bodyPost_ret (results_none rfl _ _ _) rfl Ac.out
theorem st7(w0 w:World)(N:Nat->Prop)(lo g:Nat)(c:St)(m:Nat)(a:Int)(s:Bs)(n:Nat)(A:Option Addr)(la cA:Nat)(B:Option Addr)(cB:Nat)(ps:List Bs)(hb:Below w0.heap.size w0 w)(hB:Af w0 B (ps.map ai))(hps:ps.length<=maxLen)(hpl:∀ p∈ps,p.length<=maxLen)
  (hN:∀ b,N b->w0.heap.size<=b) (hc:CK N lo w g c m) (hm:m+ps.length<=1099511627776) :
  Calls Tryz.prog 119 #[.pointer (some ⟨g,0,none⟩),aO 7 a s n A la cA B ps.length cB] w (Ag N lo w g (bndR (inB a ps c) fun d=>.ok { d with pu:=d.pu ++ ps }) (m+ps.length)):=by
 obtain ⟨i0,hi,hz⟩:=Option.map_eq_some_iff.1 infoS;have hz0:=congrArg (·.1) hz;have hz1:=congrArg (·.2.1) hz;have hz2:=congrArg (·.2.2) hz;have HI:=Hi hi;have HZ0:=Hi hz0;have HZ1:=Hi hz1;have HZ2:=Hi hz2;clear hi hz hz0 hz1 hz2;obtain ⟨wn,hwn,hbn,aK,hsn⟩:=dw w (nB 7 a s n A la cA B ps.length cB);have hpm:ps.length<=9223372036854775807:=hps;have hb0:=hb.trans (hbn.mono hb.size);have hC0:=q0e hc hbn;have HIN:=Hi (inputs w0 wn (In2 N w wn) lo g c m 7 a s n A la cA B cB ps hb0 hB hps hpl (q0U (w:=w) hN (Nat.le_trans hb.size hbn.size)) hC0 hm);have HC0:=Hi hC0;have Bc:=Hi (Upd.of_below hbn N);have HX0:=Hi aK;have HW:=Hi hwn;have HB0:=Hi hb0;have HB:=Hi hB;have HM:=Hi hm;have HN:=Hi (q0U (w:=w) hN (Nat.le_trans hb.size hbn.size));have HSN:=Hi hsn;have HSE:=Hi (show c.pu.length<=m from hc.bd.2.1);obtain ⟨res,hres⟩:∃ res,bndR (inB a ps c) (fun d=>.ok { d with pu:=d.pu ++ ps })=res:=⟨_,rfl⟩;rw [hres];have Ad:=Hi hres;have HEX:=Hi (fun d (h:inB a ps c = .ok d)=>(q3k h).2.2.1);generalize inB a ps c=r1 at HIN Ad HEX;obtain ⟨⟨e0,e1,e2,e3,e4,e5⟩,z0,z1,z2,z3,z4,z5⟩:=Aa.c6 aK;clear hc hbn aK hwn hb hB hpl hm hN hps hres hsn hb0 hC0;go_enter Tryz.func119,Tryz.ntmps119;go_wp2_with fail
 rw [HW.out];refine (show Calls Tryz.prog 142 #[.pointer (some ⟨g,0,none⟩),aO 7 a s n A la cA B ps.length cB] wn _ from HIN.out).mono ?_;intro e w1 h1;clear e0 e1 e2 e3 e4 e5 z0 z1 z2 z3 z4 z5;cases r1 with
 | bad a1=>
  exact V2J
 | ok d=>
 obtain ⟨rfl,hc1,hu1⟩:=h1;have AL:=Hi (show Rs.ok { d with pu:=d.pu ++ ps }=res from Ad.out);have HC1:=Hi (q1v hc1 (Nat.le_refl _));have Aj:=Hi (q0i Bc.out hu1 V9);have HB1:=Hi (q0V HB0.out hu1 HN.out);have AP:=Hi (HX0.out.upd hu1 fun h=>by
  exact V1w)
 have hs1:=hu1.size;have hdr:Below w1.heap.size w1 w1.drew:=Below.drew (Below.refl _ _);obtain ⟨wz,hwd⟩:∃ v,w1.drew=v:=⟨_,rfl⟩;rw [hwd] at hdr;have HXz:=Hi (AP.out.below hdr AP.out.lt);have HUz:=Hi (dm Aj.out (Upd.of_below hdr fun _=>False) fun _ h=>h.elim);have HBz:=Hi (HB1.out.trans (hdr.mono HB1.out.size));obtain ⟨⟨vs,vp,vo,ve,kb,ob,hv⟩,hbd,henl⟩:=HC1.out.below hdr;have HVz:=Hi hv;have Az:=Hi hbd;have HENL:=Hi henl;have hlse:d.pu.length<=m:=by rw [HEX.out d rfl];exact HSE.out
 have HNV:=Hi (show ¬ (vp.ownBlock=some w.heap.size\/w.heap.size=g) from fun h=>by
  exact V3m)
 have HGV:=Hi (show vp.ownBlock≠some g by have h:=hv.ne;exact h.1.2.2.2.1);have aa:Upd (fun b=>vp.ownBlock=some b\/b=g) wz wz:=Upd.refl _ _;have hS0:Upd (fun b=>vp.ownBlock=some b) wz wz:=Upd.refl _ _;have HLz:=Hi (HB.out.below HBz.out);have hlo4:lo<=wz.heap.size:=hv.lo_.2.2.2;have hlim:m+ps.length<=1099511627776:=HM.out;clear hc1 hu1 hdr hv hbd henl HEX Ad;go_wp2_with fail
 refine HT.wp_region (Z:=fun w'=>Upd (fun b=>vp.ownBlock=some b\/b=g) wz w') (S:=fun w'=>Upd (fun b=>vp.ownBlock=some b) wz w') (st:=[12]) V1 ?_;rw [hwd];clear hwd;refine HT.tm 0 rfl aa (fun _=>hS0) ?_;refine HT.tm 1 rfl aa (fun _=>hS0) ?_;refine HT.tm 2 rfl aa (fun _=>hS0) ?_;refine HT.tm 3 rfl aa (fun _=>hS0) ?_;refine HT.tm 4 rfl aa (fun _=>hS0) ?_;refine HT.ts 5 rfl V1m aa hS0 ?_;refine HT.tk 6 rfl Vr aa (fun _=>hS0) ?_;refine HT.tk 7 rfl Vr aa (fun _=>hS0) ?_;refine HT.one (i:=8) V1 rfl (fun K hK=>?_);refine q0b rfl _ _ 24 rfl lo 9 i0 (.string ⟨#[]⟩) 1 16 Tryz.underlying24 HI.out HZ0.out HZ1.out HZ2.out rfl V2 vp d.pu.length _ rfl HVz.out.op B ps.length cB (ps.map ai) rfl V3 HLz.out V4d V6 V0 hlo4 ?_;intro v' w8 hown hgrow hat;obtain ⟨vA,vc,rfl⟩:=q07 hown;have aV:Upd (fun b=>vp.ownBlock=some b) wz w8:=hS0.grown hgrow fun b hb _=>hb
 have bR:Upd (fun b=>vp.ownBlock=some b\/b=g) wz w8:=aV.mono fun b hb=>.inl hb
 (try dsimp only);refine hK.out _ _ bR aV ?_;clear hK K;(try simp only [HT.pS]);refine HT.tm 9 rfl bR (fun _=>aV) ?_;refine HT.tm 10 rfl bR (fun _=>aV) ?_;refine HT.tm 11 rfl bR (fun _=>aV) ?_;have hG8:=HVz.out.blk.upd aV HGV.out;obtain ⟨⟨c0,c1,c2,c3,c4,c5⟩,y0,y1,y2,y3,y4,y5⟩:=Aa.c6 hG8;have hg8:=hG8.lt;refine HT.oneS (i:=12) V1 V1 rfl (fun K hK=>?_);go_simp;refine hK.out _ _ (bR.setCell (p:=⟨g,1,none⟩) (fun _=>.inr rfl) _) ?_;clear hK K;(try simp only [HT.pS]);refine HT.done V1 ?_;have hown':w8.ownsRow lo 9 1 (.slice vA (d.pu.length+ps.length) vc) (d.pu ++ ps).length ((d.pu ++ ps).map ai):=by
  rw [List.length_append,List.map_append];exact hown
 have hfin:=HVz.out.vp' (pu':=d.pu ++ ps) aV hown' (hat.imp id fun h=>⟨_,Nat.le_refl _,h⟩);have Ac:=Hi (show Ag N lo w g res (m+ps.length) (.returned (.tuple #[])) (w8.setCell ⟨g,1,none⟩ (.slice vA (d.pu.length+ps.length) vc)) from by
  rw [<-AL.out];have hb:=Az.out;refine ⟨rfl,⟨⟨vs,_,vo,ve,kb,ob,hfin.mono fun b hb _ _=>?_⟩,⟨hb.1,V4a,hb.2.2.1,hb.2.2.2⟩,HENL.out⟩,?_⟩
  ·exact V1k
  ·exact q0i HUz.out ((aV.mono (Y:=In2 N w wn) fun b hb=>HVz.out.bY _ V3 b hb).setCell (p:=⟨g,1,none⟩) (fun _=>HVz.out.bY _ V3 g rfl) _) V9)
 clear hown hown' hat hfin hgrow aV bR hG8 c0 c1 c2 c3 c4 c5 y0 y1 y2 y3 y4 y5 hg8 aa hS0;go_wp2_with fail
 first | go_end0 | skip
 all_goals first | exact Ac.out | exact bodyPost_ret (results_none rfl _ _ _) rfl Ac.out
theorem st12(w:World)(N:Nat->Prop)(lo g:Nat)(c:St)(m:Nat)(k a:Int)(s:Bs)(n:Nat)(A:Option Addr)(la cA:Nat)(B:Option Addr)(lb cB:Nat)(r:Rs)(m':Nat)(hk:k = 12)(hc:CK N lo w g c m)
  (hC:∀ wn,Below w.heap.size w wn->Calls Tryz.prog 143 #[.pointer (some ⟨g,0,none⟩),aO k a s n A la cA B lb cB] wn (Ag (In2 N w wn) lo wn g r m')) :
  Calls Tryz.prog 119 #[.pointer (some ⟨g,0,none⟩),aO k a s n A la cA B lb cB] w (Ag N lo w g r m'):=by
 obtain ⟨wn,hwn,hbn,aK,hsn⟩:=dw w (nB k a s n A la cA B lb cB);have HIN:=Hi (hC wn hbn);have Bc:=Hi (Upd.of_below hbn N);have HW:=Hi hwn;have HSN:=Hi hsn;obtain ⟨⟨e0,e1,e2,e3,e4,e5⟩,z0,z1,z2,z3,z4,z5⟩:=Aa.c6 aK;clear hc hbn aK hwn hsn hC;subst hk;go_enter Tryz.func119,Tryz.ntmps119;go_wp2_with fail
 rw [HW.out];refine (show Calls Tryz.prog 143 #[.pointer (some ⟨g,0,none⟩),aO 12 a s n A la cA B lb cB] wn _ from HIN.out).mono ?_;intro e w1 h1;clear e0 e1 e2 e3 e4 e5 z0 z1 z2 z3 z4 z5;cases r with
 | bad a1=>
  exact V0i
 | ok d=>
  exact V0h
theorem st10(w:World)(N:Nat->Prop)(lo g:Nat)(c:St)(m:Nat)(k a:Int)(s:Bs)(n:Nat)(A:Option Addr)(la cA:Nat)(B:Option Addr)(lb cB:Nat)(r:Rs)(m':Nat)(hk:k = 10)(hc:CK N lo w g c m)
  (hC:∀ wn,Below w.heap.size w wn->Calls Tryz.prog 144 #[.pointer (some ⟨g,0,none⟩),aO k a s n A la cA B lb cB] wn (Ag (In2 N w wn) lo wn g r m')) :
  Calls Tryz.prog 119 #[.pointer (some ⟨g,0,none⟩),aO k a s n A la cA B lb cB] w (Ag N lo w g r m'):=by
 obtain ⟨wn,hwn,hbn,aK,hsn⟩:=dw w (nB k a s n A la cA B lb cB);have HIN:=Hi (hC wn hbn);have Bc:=Hi (Upd.of_below hbn N);have HW:=Hi hwn;have HSN:=Hi hsn;obtain ⟨⟨e0,e1,e2,e3,e4,e5⟩,z0,z1,z2,z3,z4,z5⟩:=Aa.c6 aK;clear hc hbn aK hwn hsn hC;subst hk;go_enter Tryz.func119,Tryz.ntmps119;go_wp2_with fail
 rw [HW.out];refine (show Calls Tryz.prog 144 #[.pointer (some ⟨g,0,none⟩),aO 10 a s n A la cA B lb cB] wn _ from HIN.out).mono ?_;intro e w1 h1;clear e0 e1 e2 e3 e4 e5 z0 z1 z2 z3 z4 z5;cases r with
 | bad a1=>
  exact V0i
 | ok d=>
  exact V0h
theorem st8(w:World)(N:Nat->Prop)(lo g:Nat)(c:St)(m:Nat)(k a:Int)(s:Bs)(n:Nat)(A:Option Addr)(la cA:Nat)(B:Option Addr)(lb cB:Nat)(r:Rs)(m':Nat)(hk:k = 8)(hc:CK N lo w g c m)
  (hC:∀ wn,Below w.heap.size w wn->Calls Tryz.prog 145 #[.pointer (some ⟨g,0,none⟩),aO k a s n A la cA B lb cB] wn (Ag (In2 N w wn) lo wn g r m')) :
  Calls Tryz.prog 119 #[.pointer (some ⟨g,0,none⟩),aO k a s n A la cA B lb cB] w (Ag N lo w g r m'):=by
 obtain ⟨wn,hwn,hbn,aK,hsn⟩:=dw w (nB k a s n A la cA B lb cB);have HIN:=Hi (hC wn hbn);have Bc:=Hi (Upd.of_below hbn N);have HW:=Hi hwn;have HSN:=Hi hsn;obtain ⟨⟨e0,e1,e2,e3,e4,e5⟩,z0,z1,z2,z3,z4,z5⟩:=Aa.c6 aK;clear hc hbn aK hwn hsn hC;subst hk;go_enter Tryz.func119,Tryz.ntmps119;go_wp2_with fail
 rw [HW.out];refine (show Calls Tryz.prog 145 #[.pointer (some ⟨g,0,none⟩),aO 8 a s n A la cA B lb cB] wn _ from HIN.out).mono ?_;intro e w1 h1;clear e0 e1 e2 e3 e4 e5 z0 z1 z2 z3 z4 z5;cases r with
 | bad a1=>
  exact V0i
 | ok d=>
  exact V0h
theorem st9(w:World)(N:Nat->Prop)(lo g:Nat)(c:St)(m:Nat)(k a:Int)(s:Bs)(n:Nat)(A:Option Addr)(la cA:Nat)(B:Option Addr)(lb cB:Nat)(r:Rs)(m':Nat)(hk:k = 9)(hc:CK N lo w g c m)
  (hC:∀ wn,Below w.heap.size w wn->Calls Tryz.prog 145 #[.pointer (some ⟨g,0,none⟩),aO k a s n A la cA B lb cB] wn (Ag (In2 N w wn) lo wn g r m')) :
  Calls Tryz.prog 119 #[.pointer (some ⟨g,0,none⟩),aO k a s n A la cA B lb cB] w (Ag N lo w g r m'):=by
 obtain ⟨wn,hwn,hbn,aK,hsn⟩:=dw w (nB k a s n A la cA B lb cB);have HIN:=Hi (hC wn hbn);have Bc:=Hi (Upd.of_below hbn N);have HW:=Hi hwn;have HSN:=Hi hsn;obtain ⟨⟨e0,e1,e2,e3,e4,e5⟩,z0,z1,z2,z3,z4,z5⟩:=Aa.c6 aK;clear hc hbn aK hwn hsn hC;subst hk;go_enter Tryz.func119,Tryz.ntmps119;go_wp2_with fail
 rw [HW.out];refine (show Calls Tryz.prog 145 #[.pointer (some ⟨g,0,none⟩),aO 9 a s n A la cA B lb cB] wn _ from HIN.out).mono ?_;intro e w1 h1;clear e0 e1 e2 e3 e4 e5 z0 z1 z2 z3 z4 z5;cases r with
 | bad a1=>
  exact V0i
 | ok d=>
  exact V0h
theorem st11(w:World)(N:Nat->Prop)(lo g:Nat)(c:St)(m:Nat)(k a:Int)(s:Bs)(n:Nat)(A:Option Addr)(la cA:Nat)(B:Option Addr)(lb cB:Nat)(r:Rs)(m':Nat)(hk:k = 11)(hc:CK N lo w g c m)
  (hC:∀ wn,Below w.heap.size w wn->Calls Tryz.prog 146 #[.pointer (some ⟨g,0,none⟩),aO k a s n A la cA B lb cB] wn (Ag (In2 N w wn) lo wn g r m')) :
  Calls Tryz.prog 119 #[.pointer (some ⟨g,0,none⟩),aO k a s n A la cA B lb cB] w (Ag N lo w g r m'):=by
 obtain ⟨wn,hwn,hbn,aK,hsn⟩:=dw w (nB k a s n A la cA B lb cB);have HIN:=Hi (hC wn hbn);have Bc:=Hi (Upd.of_below hbn N);have HW:=Hi hwn;have HSN:=Hi hsn;obtain ⟨⟨e0,e1,e2,e3,e4,e5⟩,z0,z1,z2,z3,z4,z5⟩:=Aa.c6 aK;clear hc hbn aK hwn hsn hC;subst hk;go_enter Tryz.func119,Tryz.ntmps119;go_wp2_with fail
 rw [HW.out];refine (show Calls Tryz.prog 146 #[.pointer (some ⟨g,0,none⟩),aO 11 a s n A la cA B lb cB] wn _ from HIN.out).mono ?_;intro e w1 h1;clear e0 e1 e2 e3 e4 e5 z0 z1 z2 z3 z4 z5;cases r with
 | bad a1=>
  exact V0i
 | ok d=>
  exact V0h
theorem stX(w:World)(N:Nat->Prop)(lo g:Nat)(c:St)(m:Nat)(k a:Int)(s:Bs)(n:Nat)(A:Option Addr)(la cA:Nat)(B:Option Addr)(lb cB:Nat)(hk:k≠6/\k≠7/\k≠12/\k≠10/\k≠8/\k≠9/\k≠11)(hc:CK N lo w g c m) :
  Calls Tryz.prog 119 #[.pointer (some ⟨g,0,none⟩),aO k a s n A la cA B lb cB] w (Ag N lo w g (.ok c) m):=by
 obtain ⟨wn,hwn,hbn,aK,hsn⟩:=dw w (nB k a s n A la cA B lb cB);have HC0:=Hi (q0e hc hbn);have Bc:=Hi (Upd.of_below hbn N);have HW:=Hi hwn;have HSN:=Hi hsn;obtain ⟨⟨e0,e1,e2,e3,e4,e5⟩,z0,z1,z2,z3,z4,z5⟩:=Aa.c6 aK;obtain ⟨k6,k7,k12,k10,k8,k9,k11⟩:=hk;have j6:(k==6)=false:=V4;have j7:(k==7)=false:=V4;have j12:(k==12)=false:=V4;have j10:(k==10)=false:=V4;have j8:(k==8)=false:=V4;have j9:(k==9)=false:=V4;have j11:(k==11)=false:=V4;have Ac:=Hi (show Ag N lo w g (.ok c) m (.returned (.tuple #[])) wn from ⟨rfl,q2b HC0.out V9,Bc.out⟩);clear hc hbn aK hwn hsn k6 k7 k12 k10 k8 k9 k11;go_enter Tryz.func119,Tryz.ntmps119;go_wp2_with fail
 rw [HW.out]
 first | go_end0 | skip
 all_goals first | exact Ac.out | exact bodyPost_ret (results_none rfl _ _ _) rfl Ac.out
theorem Ag.more{N:Nat->Prop}{lo:Nat}{w:World}{g:Nat}{r:Rs}{m m':Nat}{e:Ending}{w':World}(h:Ag N lo w g r m e w')(hm:m<=m'):Ag N lo w g r m' e w':=by
 cases r with
 | bad a=>exact h
 | ok c=>exact ⟨h.1,h.2.1.more hm,h.2.2⟩
theorem statement:∀ M,StC M
 | 0=>fun z h=>absurd h (Nat.not_lt_zero _)
 | M+1=>by
  intro z hM w0 w N lo g c m k a s n A la cA B lb cB hb hT hlz hN hc hso hm;obtain ⟨k1,a1,s1,n1,ps,l⟩:=z;have hcap:=q3p hT;obtain ⟨rfl,rfl,rfl,rfl,rfl,rfl,hl,hp,hB,_⟩:=q0B hT;have hT2:=hT;unfold TIc at hT2;obtain ⟨A1,cA1,B1,cB1,h1,_,_,_,css,hL,hS,_⟩:=hT2;unfold nzC at h1;simp only [List.cons.injEq,Value.slice.injEq,true_and,and_true] at h1;obtain ⟨⟨rfl,rfl⟩,rfl,rfl⟩:=h1;obtain ⟨hs,hpl,hls⟩:=q0G hlz;have hsz:∀ (i:Nat) (x:Tz),l[i]?=some x->SizeOf.sizeOf x < M:=fun i x h=>by
   have:=q0S (k:=k) (a:=a) (n:=n) (s:=s) (ps:=ps) h;omega
  have hnb:nbz (.mk k a s n ps l)=ps.length+1+au l:=rfl;have hlow:∀ wn,Below w.heap.size w wn->∀ b,In2 N w wn b->w0.heap.size<=b:=fun wn hbn=>q0U hN (Nat.le_trans hb.size hbn.size)
  unfold stB;by_cases h6:k = 6
  ·subst h6;rw [if_pos rfl];exact (st6 w0 w N lo g c m a s n A l.length cA B cB ps hb hB hp hpl hN hc V0).mono fun e w' h=>h.more V0
  rw [if_neg h6];by_cases h7:k = 7
  ·subst h7;rw [if_pos rfl];exact (st7 w0 w N lo g c m a s n A l.length cA B cB ps hb hB hp hpl hN hc V0).mono fun e w' h=>h.more V0
  rw [if_neg h7];by_cases h12:k = 12
  ·rw [if_pos h12];exact st12 w N lo g c m k a s n A l.length cA B ps.length cB _ _ h12 hc fun wn hbn=>(function w0 wn (In2 N w wn) lo g c m k a s n A cA B cB ps l css (hb.trans (hbn.mono hb.size)) hL (q0m hS) hcap hB hp hpl hs hls (hlow wn hbn) (q0e hc hbn) V0).mono fun e w' h=>h.more V0
  rw [if_neg h12];by_cases h10:k = 10
  ·rw [if_pos h10];exact st10 w N lo g c m k a s n A l.length cA B ps.length cB _ _ h10 hc fun wn hbn=>(let_ w0 wn (In2 N w wn) lo g c m k a s n A cA B ps.length cB l css (hb.trans (hbn.mono hb.size)) hL (q0m hS) hcap hs hls (hlow wn hbn) (q0e hc hbn) V0).mono fun e w' h=>h.more V0
  rw [if_neg h10];by_cases h8:k = 8
  ·rw [if_pos (.inl h8)];exact st8 w N lo g c m k a s n A l.length cA B ps.length cB _ _ h8 hc fun wn hbn=>(output w0 wn (In2 N w wn) lo g c m k a s n A cA B ps.length cB l css (hb.trans (hbn.mono hb.size)) hL (q0m hS) hcap hs hls (hlow wn hbn) (q0e hc hbn) V0).mono fun e w' h=>h.more V0
  by_cases h9:k = 9
  ·rw [if_pos (.inr h9)];exact st9 w N lo g c m k a s n A l.length cA B ps.length cB _ _ h9 hc fun wn hbn=>(output w0 wn (In2 N w wn) lo g c m k a s n A cA B ps.length cB l css (hb.trans (hbn.mono hb.size)) hL (q0m hS) hcap hs hls (hlow wn hbn) (q0e hc hbn) V0).mono fun e w' h=>h.more V0
  rw [if_neg V0];by_cases h11:k = 11
  ·rw [if_pos h11];exact st11 w N lo g c m k a s n A l.length cA B ps.length cB _ _ h11 hc fun wn hbn=>(loop (statement M) w0 wn (In2 N w wn) lo g c m k a s n A cA B ps.length cB l css (hb.trans (hbn.mono hb.size)) hL hS hcap hsz hs hls (hlow wn hbn) (q0e hc hbn) V0).mono fun e w' h=>h.more V0
  rw [if_neg h11];exact (stX w N lo g c m k a s n A l.length cA B ps.length cB ⟨h6,h7,h12,h10,h8,h9,h11⟩ hc).mono fun e w' h=>h.more V0
end Nm
end Go.Proofs.YtcgibpdjfgjldaaGreatDoor
