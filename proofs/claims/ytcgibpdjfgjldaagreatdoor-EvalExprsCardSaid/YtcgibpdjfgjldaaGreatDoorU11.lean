/- DERIVED. NmStm, NmPg, NmChk. By an AI agent. -/
import Derived.Test.YtcgibpdjfgjldaaGreatDoorU10
import Derived.Tactics
import Derived.Defers
import Derived.Recover
import Derived.Shelf.Abstract
set_option maxRecDepth 100000
set_option maxHeartbeats 8000000
set_option linter.unusedVariables false
set_option linter.unusedSimpArgs false
open Go Go.ChangeShapes Go.WideShapes Go.ChangeAt Go.RowKit
namespace Go.Proofs.YtcgibpdjfgjldaaGreatDoor
namespace Nm
open Lx Args Pa Sh
theorem st6(w0 w:World)(N:Nat->Prop)(lo g:Nat)(c:St)(m:Nat)(a:Int)(s:Bs)(n:Nat)(A:Option Addr)(la cA:Nat)(B:Option Addr)(cB:Nat)(ps:List Bs)(hb:Below w0.heap.size w0 w)(hB:Lies w0 B (ps.map strV))(hps:ps.length<=maxLen)(hpl:∀ p∈ps,p.length<=maxLen)
  (hN:∀ b,N b->w0.heap.size<=b) (hc:CK N lo w g c m) (hm:m+ps.length<=1099511627776) :
  Calls Tryz.prog 119 #[.pointer (some ⟨g,0,none⟩),nzA 6 a s n A la cA B ps.length cB] w (StatP N lo w g (bndR (inB a ps c) fun d=>.ok { d with se:=d.se ++ ps }) (m+ps.length)):=by
 obtain ⟨i0,hi,hz⟩:=Option.map_eq_some_iff.1 infoS;have hz0:=congrArg (·.1) hz;have hz1:=congrArg (·.2.1) hz;have hz2:=congrArg (·.2.2) hz;have HI:=Hi hi;have HZ0:=Hi hz0;have HZ1:=Hi hz1;have HZ2:=Hi hz2;clear hi hz hz0 hz1 hz2;obtain ⟨wn,hwn,hbn,hXn,hsn⟩:=q05 w (nB 6 a s n A la cA B ps.length cB);have hpm:ps.length<=9223372036854775807:=hps;have hb0:=hb.trans (hbn.mono hb.size);have hC0:=q0c hc hbn;have HIN:=Hi (inputs w0 wn (In2 N w wn) lo g c m 6 a s n A la cA B cB ps hb0 hB hps hpl (q0R (w:=w) hN (Nat.le_trans hb.size hbn.size)) hC0 hm);have HC0:=Hi hC0;have HU0:=Hi (Upd.of_below hbn N);have HX0:=Hi hXn;have HW:=Hi hwn;have HB0:=Hi hb0;have HB:=Hi hB;have HM:=Hi hm;have HN:=Hi (q0R (w:=w) hN (Nat.le_trans hb.size hbn.size));have HSN:=Hi hsn;have HSE:=Hi (show c.se.length<=m from hc.bd.1);obtain ⟨res,hres⟩:∃ res,bndR (inB a ps c) (fun d=>.ok { d with se:=d.se ++ ps })=res:=⟨_,rfl⟩;rw [hres];have HRES:=Hi hres;have HEX:=Hi (fun d (h:inB a ps c = .ok d)=>(q3l h).2.1);generalize inB a ps c=r1 at HIN HRES HEX;obtain ⟨⟨e0,e1,e2,e3,e4,e5⟩,z0,z1,z2,z3,z4,z5⟩:=Blk.c6 hXn;clear hc hbn hXn hwn hb hB hpl hm hN hps hres hsn hb0 hC0;go_enter Tryz.func119,Tryz.ntmps119;go_wp2_with fail
 rw [HW.out];refine (show Calls Tryz.prog 142 #[.pointer (some ⟨g,0,none⟩),nzA 6 a s n A la cA B ps.length cB] wn _ from HIN.out).mono ?_;intro e w1 h1;clear e0 e1 e2 e3 e4 e5 z0 z1 z2 z3 z4 z5;cases r1 with
 | bad a1=>
  exact V2U
 | ok d=>
 obtain ⟨rfl,hc1,hu1⟩:=h1;have HQ2:=Hi (show Rs.ok { d with se:=d.se ++ ps }=res from HRES.out);have HC1:=Hi (q1v hc1 (Nat.le_refl _));have HU1:=Hi (q0i HU0.out hu1 V9);have HB1:=Hi (q0S HB0.out hu1 HN.out);have HX1:=Hi (HX0.out.upd hu1 fun h=>by
  exact V1F)
 have hs1:=hu1.size;have hdr:Below w1.heap.size w1 w1.drew:=Below.drew (Below.refl _ _);obtain ⟨wz,hwd⟩:∃ v,w1.drew=v:=⟨_,rfl⟩;rw [hwd] at hdr;have HXz:=Hi (HX1.out.below hdr HX1.out.lt);have HUz:=Hi (q01 HU1.out (Upd.of_below hdr fun _=>False) fun _ h=>h.elim);have HBz:=Hi (HB1.out.trans (hdr.mono HB1.out.size));obtain ⟨⟨vs,vp,vo,ve,kb,ob,hv⟩,hbd,henl⟩:=HC1.out.below hdr;have HVz:=Hi hv;have HBD:=Hi hbd;have HENL:=Hi henl;have hlse:d.se.length<=m:=by rw [HEX.out d rfl];exact HSE.out
 have HNV:=Hi (show ¬ (vs.ownBlock=some w.heap.size\/w.heap.size=g) from fun h=>by
  exact V3x)
 have HGV:=Hi (show vs.ownBlock≠some g by have h:=hv.ne;exact h.1.2.2.1);have hZ0:Upd (fun b=>vs.ownBlock=some b\/b=g) wz wz:=Upd.refl _ _;have hS0:Upd (fun b=>vs.ownBlock=some b) wz wz:=Upd.refl _ _;have HLz:=Hi (HB.out.below HBz.out);have hlo4:lo<=wz.heap.size:=hv.lo_.2.2.2;have hlim:m+ps.length<=1099511627776:=HM.out;clear hc1 hu1 hdr hv hbd henl HEX HRES;go_wp2_with fail
 refine HT.wp_region (Z:=fun w'=>Upd (fun b=>vs.ownBlock=some b\/b=g) wz w') (S:=fun w'=>Upd (fun b=>vs.ownBlock=some b) wz w') (st:=[12]) V1 ?_;rw [hwd];clear hwd;refine HT.tm 0 rfl hZ0 (fun _=>hS0) ?_;refine HT.tm 1 rfl hZ0 (fun _=>hS0) ?_;refine HT.tm 2 rfl hZ0 (fun _=>hS0) ?_;refine HT.tm 3 rfl hZ0 (fun _=>hS0) ?_;refine HT.tm 4 rfl hZ0 (fun _=>hS0) ?_;refine HT.ts 5 rfl V1u hZ0 hS0 ?_;refine HT.tk 6 rfl Vp hZ0 (fun _=>hS0) ?_;refine HT.tk 7 rfl Vp hZ0 (fun _=>hS0) ?_;refine HT.one (i:=8) V1 rfl (fun K hK=>?_);refine q0x rfl _ _ 24 rfl lo 9 i0 (.string ⟨#[]⟩) 1 16 Tryz.underlying24 HI.out HZ0.out HZ1.out HZ2.out rfl V2 vs d.se.length _ rfl HVz.out.os B ps.length cB (ps.map strV) rfl V3 HLz.out V4k V8 V0 hlo4 ?_;intro v' w8 hown hgrow hat;obtain ⟨vA,vc,rfl⟩:=q0l hown;have hs8:Upd (fun b=>vs.ownBlock=some b) wz w8:=hS0.grown hgrow fun b hb _=>hb
 have hz8:Upd (fun b=>vs.ownBlock=some b\/b=g) wz w8:=hs8.mono fun b hb=>.inl hb
 (try dsimp only);refine hK.out _ _ hz8 hs8 ?_;clear hK K;(try simp only [HT.pS]);refine HT.tm 9 rfl hz8 (fun _=>hs8) ?_;refine HT.tm 10 rfl hz8 (fun _=>hs8) ?_;refine HT.tm 11 rfl hz8 (fun _=>hs8) ?_;have hG8:=HVz.out.blk.upd hs8 HGV.out;obtain ⟨⟨c0,c1,c2,c3,c4,c5⟩,y0,y1,y2,y3,y4,y5⟩:=Blk.c6 hG8;have hg8:=hG8.lt;refine HT.oneS (i:=12) V1 V1 rfl (fun K hK=>?_);go_simp;refine hK.out _ _ (hz8.setCell (p:=⟨g,0,none⟩) (fun _=>.inr rfl) _) ?_;clear hK K;(try simp only [HT.pS]);refine HT.done V1 ?_;have hown':w8.ownsRow lo 9 1 (.slice vA (d.se.length+ps.length) vc) (d.se ++ ps).length ((d.se ++ ps).map strV):=by
  rw [List.length_append,List.map_append];exact hown
 have hfin:=HVz.out.vs' (se':=d.se ++ ps) hs8 hown' (hat.imp id fun h=>⟨_,Nat.le_refl _,h⟩);have HEND:=Hi (show StatP N lo w g res (m+ps.length) (.returned (.tuple #[])) (w8.setCell ⟨g,0,none⟩ (.slice vA (d.se.length+ps.length) vc)) from by
  rw [<-HQ2.out];have hb:=HBD.out;refine ⟨rfl,⟨⟨_,vp,vo,ve,kb,ob,hfin.mono fun b hb _ _=>?_⟩,⟨by show (d.se ++ ps).length<=_;rw [List.length_append];omega,hb.2.1,hb.2.2.1,hb.2.2.2⟩,HENL.out⟩,?_⟩
  ·exact V1r
  ·exact q0i HUz.out ((hs8.mono (Y:=In2 N w wn) fun b hb=>HVz.out.inN _ V3 b hb).setCell (p:=⟨g,0,none⟩) (fun _=>HVz.out.inN _ V3 g rfl) _) V9)
 clear hown hown' hat hfin hgrow hs8 hz8 hG8 c0 c1 c2 c3 c4 c5 y0 y1 y2 y3 y4 y5 hg8 hZ0 hS0;go_wp2_with fail
 first | go_end0 | skip
 all_goals first | exact HEND.out | exact bodyPost_ret (results_none rfl _ _ _) rfl HEND.out
theorem st7(w0 w:World)(N:Nat->Prop)(lo g:Nat)(c:St)(m:Nat)(a:Int)(s:Bs)(n:Nat)(A:Option Addr)(la cA:Nat)(B:Option Addr)(cB:Nat)(ps:List Bs)(hb:Below w0.heap.size w0 w)(hB:Lies w0 B (ps.map strV))(hps:ps.length<=maxLen)(hpl:∀ p∈ps,p.length<=maxLen)
  (hN:∀ b,N b->w0.heap.size<=b) (hc:CK N lo w g c m) (hm:m+ps.length<=1099511627776) :
  Calls Tryz.prog 119 #[.pointer (some ⟨g,0,none⟩),nzA 7 a s n A la cA B ps.length cB] w (StatP N lo w g (bndR (inB a ps c) fun d=>.ok { d with pu:=d.pu ++ ps }) (m+ps.length)):=by
 obtain ⟨i0,hi,hz⟩:=Option.map_eq_some_iff.1 infoS;have hz0:=congrArg (·.1) hz;have hz1:=congrArg (·.2.1) hz;have hz2:=congrArg (·.2.2) hz;have HI:=Hi hi;have HZ0:=Hi hz0;have HZ1:=Hi hz1;have HZ2:=Hi hz2;clear hi hz hz0 hz1 hz2;obtain ⟨wn,hwn,hbn,hXn,hsn⟩:=q05 w (nB 7 a s n A la cA B ps.length cB);have hpm:ps.length<=9223372036854775807:=hps;have hb0:=hb.trans (hbn.mono hb.size);have hC0:=q0c hc hbn;have HIN:=Hi (inputs w0 wn (In2 N w wn) lo g c m 7 a s n A la cA B cB ps hb0 hB hps hpl (q0R (w:=w) hN (Nat.le_trans hb.size hbn.size)) hC0 hm);have HC0:=Hi hC0;have HU0:=Hi (Upd.of_below hbn N);have HX0:=Hi hXn;have HW:=Hi hwn;have HB0:=Hi hb0;have HB:=Hi hB;have HM:=Hi hm;have HN:=Hi (q0R (w:=w) hN (Nat.le_trans hb.size hbn.size));have HSN:=Hi hsn;have HSE:=Hi (show c.pu.length<=m from hc.bd.2.1);obtain ⟨res,hres⟩:∃ res,bndR (inB a ps c) (fun d=>.ok { d with pu:=d.pu ++ ps })=res:=⟨_,rfl⟩;rw [hres];have HRES:=Hi hres;have HEX:=Hi (fun d (h:inB a ps c = .ok d)=>(q3l h).2.2.1);generalize inB a ps c=r1 at HIN HRES HEX;obtain ⟨⟨e0,e1,e2,e3,e4,e5⟩,z0,z1,z2,z3,z4,z5⟩:=Blk.c6 hXn;clear hc hbn hXn hwn hb hB hpl hm hN hps hres hsn hb0 hC0;go_enter Tryz.func119,Tryz.ntmps119;go_wp2_with fail
 rw [HW.out];refine (show Calls Tryz.prog 142 #[.pointer (some ⟨g,0,none⟩),nzA 7 a s n A la cA B ps.length cB] wn _ from HIN.out).mono ?_;intro e w1 h1;clear e0 e1 e2 e3 e4 e5 z0 z1 z2 z3 z4 z5;cases r1 with
 | bad a1=>
  exact V2U
 | ok d=>
 obtain ⟨rfl,hc1,hu1⟩:=h1;have HQ2:=Hi (show Rs.ok { d with pu:=d.pu ++ ps }=res from HRES.out);have HC1:=Hi (q1v hc1 (Nat.le_refl _));have HU1:=Hi (q0i HU0.out hu1 V9);have HB1:=Hi (q0S HB0.out hu1 HN.out);have HX1:=Hi (HX0.out.upd hu1 fun h=>by
  exact V1F)
 have hs1:=hu1.size;have hdr:Below w1.heap.size w1 w1.drew:=Below.drew (Below.refl _ _);obtain ⟨wz,hwd⟩:∃ v,w1.drew=v:=⟨_,rfl⟩;rw [hwd] at hdr;have HXz:=Hi (HX1.out.below hdr HX1.out.lt);have HUz:=Hi (q01 HU1.out (Upd.of_below hdr fun _=>False) fun _ h=>h.elim);have HBz:=Hi (HB1.out.trans (hdr.mono HB1.out.size));obtain ⟨⟨vs,vp,vo,ve,kb,ob,hv⟩,hbd,henl⟩:=HC1.out.below hdr;have HVz:=Hi hv;have HBD:=Hi hbd;have HENL:=Hi henl;have hlse:d.pu.length<=m:=by rw [HEX.out d rfl];exact HSE.out
 have HNV:=Hi (show ¬ (vp.ownBlock=some w.heap.size\/w.heap.size=g) from fun h=>by
  exact V3x)
 have HGV:=Hi (show vp.ownBlock≠some g by have h:=hv.ne;exact h.1.2.2.2.1);have hZ0:Upd (fun b=>vp.ownBlock=some b\/b=g) wz wz:=Upd.refl _ _;have hS0:Upd (fun b=>vp.ownBlock=some b) wz wz:=Upd.refl _ _;have HLz:=Hi (HB.out.below HBz.out);have hlo4:lo<=wz.heap.size:=hv.lo_.2.2.2;have hlim:m+ps.length<=1099511627776:=HM.out;clear hc1 hu1 hdr hv hbd henl HEX HRES;go_wp2_with fail
 refine HT.wp_region (Z:=fun w'=>Upd (fun b=>vp.ownBlock=some b\/b=g) wz w') (S:=fun w'=>Upd (fun b=>vp.ownBlock=some b) wz w') (st:=[12]) V1 ?_;rw [hwd];clear hwd;refine HT.tm 0 rfl hZ0 (fun _=>hS0) ?_;refine HT.tm 1 rfl hZ0 (fun _=>hS0) ?_;refine HT.tm 2 rfl hZ0 (fun _=>hS0) ?_;refine HT.tm 3 rfl hZ0 (fun _=>hS0) ?_;refine HT.tm 4 rfl hZ0 (fun _=>hS0) ?_;refine HT.ts 5 rfl V1u hZ0 hS0 ?_;refine HT.tk 6 rfl Vp hZ0 (fun _=>hS0) ?_;refine HT.tk 7 rfl Vp hZ0 (fun _=>hS0) ?_;refine HT.one (i:=8) V1 rfl (fun K hK=>?_);refine q0x rfl _ _ 24 rfl lo 9 i0 (.string ⟨#[]⟩) 1 16 Tryz.underlying24 HI.out HZ0.out HZ1.out HZ2.out rfl V2 vp d.pu.length _ rfl HVz.out.op B ps.length cB (ps.map strV) rfl V3 HLz.out V4k V8 V0 hlo4 ?_;intro v' w8 hown hgrow hat;obtain ⟨vA,vc,rfl⟩:=q0l hown;have hs8:Upd (fun b=>vp.ownBlock=some b) wz w8:=hS0.grown hgrow fun b hb _=>hb
 have hz8:Upd (fun b=>vp.ownBlock=some b\/b=g) wz w8:=hs8.mono fun b hb=>.inl hb
 (try dsimp only);refine hK.out _ _ hz8 hs8 ?_;clear hK K;(try simp only [HT.pS]);refine HT.tm 9 rfl hz8 (fun _=>hs8) ?_;refine HT.tm 10 rfl hz8 (fun _=>hs8) ?_;refine HT.tm 11 rfl hz8 (fun _=>hs8) ?_;have hG8:=HVz.out.blk.upd hs8 HGV.out;obtain ⟨⟨c0,c1,c2,c3,c4,c5⟩,y0,y1,y2,y3,y4,y5⟩:=Blk.c6 hG8;have hg8:=hG8.lt;refine HT.oneS (i:=12) V1 V1 rfl (fun K hK=>?_);go_simp;refine hK.out _ _ (hz8.setCell (p:=⟨g,1,none⟩) (fun _=>.inr rfl) _) ?_;clear hK K;(try simp only [HT.pS]);refine HT.done V1 ?_;have hown':w8.ownsRow lo 9 1 (.slice vA (d.pu.length+ps.length) vc) (d.pu ++ ps).length ((d.pu ++ ps).map strV):=by
  rw [List.length_append,List.map_append];exact hown
 have hfin:=HVz.out.vp' (pu':=d.pu ++ ps) hs8 hown' (hat.imp id fun h=>⟨_,Nat.le_refl _,h⟩);have HEND:=Hi (show StatP N lo w g res (m+ps.length) (.returned (.tuple #[])) (w8.setCell ⟨g,1,none⟩ (.slice vA (d.pu.length+ps.length) vc)) from by
  rw [<-HQ2.out];have hb:=HBD.out;refine ⟨rfl,⟨⟨vs,_,vo,ve,kb,ob,hfin.mono fun b hb _ _=>?_⟩,⟨hb.1,by show (d.pu ++ ps).length<=_;rw [List.length_append];omega,hb.2.2.1,hb.2.2.2⟩,HENL.out⟩,?_⟩
  ·exact V1r
  ·exact q0i HUz.out ((hs8.mono (Y:=In2 N w wn) fun b hb=>HVz.out.inN _ V3 b hb).setCell (p:=⟨g,1,none⟩) (fun _=>HVz.out.inN _ V3 g rfl) _) V9)
 clear hown hown' hat hfin hgrow hs8 hz8 hG8 c0 c1 c2 c3 c4 c5 y0 y1 y2 y3 y4 y5 hg8 hZ0 hS0;go_wp2_with fail
 first | go_end0 | skip
 all_goals first | exact HEND.out | exact bodyPost_ret (results_none rfl _ _ _) rfl HEND.out
theorem st12(w:World)(N:Nat->Prop)(lo g:Nat)(c:St)(m:Nat)(k a:Int)(s:Bs)(n:Nat)(A:Option Addr)(la cA:Nat)(B:Option Addr)(lb cB:Nat)(r:Rs)(m':Nat)(hk:k = 12)(hc:CK N lo w g c m)
  (hC:∀ wn,Below w.heap.size w wn->Calls Tryz.prog 143 #[.pointer (some ⟨g,0,none⟩),nzA k a s n A la cA B lb cB] wn (StatP (In2 N w wn) lo wn g r m')) :
  Calls Tryz.prog 119 #[.pointer (some ⟨g,0,none⟩),nzA k a s n A la cA B lb cB] w (StatP N lo w g r m'):=by
 obtain ⟨wn,hwn,hbn,hXn,hsn⟩:=q05 w (nB k a s n A la cA B lb cB);have HIN:=Hi (hC wn hbn);have HU0:=Hi (Upd.of_below hbn N);have HW:=Hi hwn;have HSN:=Hi hsn;obtain ⟨⟨e0,e1,e2,e3,e4,e5⟩,z0,z1,z2,z3,z4,z5⟩:=Blk.c6 hXn;clear hc hbn hXn hwn hsn hC;subst hk;go_enter Tryz.func119,Tryz.ntmps119;go_wp2_with fail
 rw [HW.out];refine (show Calls Tryz.prog 143 #[.pointer (some ⟨g,0,none⟩),nzA 12 a s n A la cA B lb cB] wn _ from HIN.out).mono ?_;intro e w1 h1;clear e0 e1 e2 e3 e4 e5 z0 z1 z2 z3 z4 z5;cases r with
 | bad a1=>
  exact V0c
 | ok d=>
  exact V0b
theorem st10(w:World)(N:Nat->Prop)(lo g:Nat)(c:St)(m:Nat)(k a:Int)(s:Bs)(n:Nat)(A:Option Addr)(la cA:Nat)(B:Option Addr)(lb cB:Nat)(r:Rs)(m':Nat)(hk:k = 10)(hc:CK N lo w g c m)
  (hC:∀ wn,Below w.heap.size w wn->Calls Tryz.prog 144 #[.pointer (some ⟨g,0,none⟩),nzA k a s n A la cA B lb cB] wn (StatP (In2 N w wn) lo wn g r m')) :
  Calls Tryz.prog 119 #[.pointer (some ⟨g,0,none⟩),nzA k a s n A la cA B lb cB] w (StatP N lo w g r m'):=by
 obtain ⟨wn,hwn,hbn,hXn,hsn⟩:=q05 w (nB k a s n A la cA B lb cB);have HIN:=Hi (hC wn hbn);have HU0:=Hi (Upd.of_below hbn N);have HW:=Hi hwn;have HSN:=Hi hsn;obtain ⟨⟨e0,e1,e2,e3,e4,e5⟩,z0,z1,z2,z3,z4,z5⟩:=Blk.c6 hXn;clear hc hbn hXn hwn hsn hC;subst hk;go_enter Tryz.func119,Tryz.ntmps119;go_wp2_with fail
 rw [HW.out];refine (show Calls Tryz.prog 144 #[.pointer (some ⟨g,0,none⟩),nzA 10 a s n A la cA B lb cB] wn _ from HIN.out).mono ?_;intro e w1 h1;clear e0 e1 e2 e3 e4 e5 z0 z1 z2 z3 z4 z5;cases r with
 | bad a1=>
  exact V0c
 | ok d=>
  exact V0b
theorem st8(w:World)(N:Nat->Prop)(lo g:Nat)(c:St)(m:Nat)(k a:Int)(s:Bs)(n:Nat)(A:Option Addr)(la cA:Nat)(B:Option Addr)(lb cB:Nat)(r:Rs)(m':Nat)(hk:k = 8)(hc:CK N lo w g c m)
  (hC:∀ wn,Below w.heap.size w wn->Calls Tryz.prog 145 #[.pointer (some ⟨g,0,none⟩),nzA k a s n A la cA B lb cB] wn (StatP (In2 N w wn) lo wn g r m')) :
  Calls Tryz.prog 119 #[.pointer (some ⟨g,0,none⟩),nzA k a s n A la cA B lb cB] w (StatP N lo w g r m'):=by
 obtain ⟨wn,hwn,hbn,hXn,hsn⟩:=q05 w (nB k a s n A la cA B lb cB);have HIN:=Hi (hC wn hbn);have HU0:=Hi (Upd.of_below hbn N);have HW:=Hi hwn;have HSN:=Hi hsn;obtain ⟨⟨e0,e1,e2,e3,e4,e5⟩,z0,z1,z2,z3,z4,z5⟩:=Blk.c6 hXn;clear hc hbn hXn hwn hsn hC;subst hk;go_enter Tryz.func119,Tryz.ntmps119;go_wp2_with fail
 rw [HW.out];refine (show Calls Tryz.prog 145 #[.pointer (some ⟨g,0,none⟩),nzA 8 a s n A la cA B lb cB] wn _ from HIN.out).mono ?_;intro e w1 h1;clear e0 e1 e2 e3 e4 e5 z0 z1 z2 z3 z4 z5;cases r with
 | bad a1=>
  exact V0c
 | ok d=>
  exact V0b
theorem st9(w:World)(N:Nat->Prop)(lo g:Nat)(c:St)(m:Nat)(k a:Int)(s:Bs)(n:Nat)(A:Option Addr)(la cA:Nat)(B:Option Addr)(lb cB:Nat)(r:Rs)(m':Nat)(hk:k = 9)(hc:CK N lo w g c m)
  (hC:∀ wn,Below w.heap.size w wn->Calls Tryz.prog 145 #[.pointer (some ⟨g,0,none⟩),nzA k a s n A la cA B lb cB] wn (StatP (In2 N w wn) lo wn g r m')) :
  Calls Tryz.prog 119 #[.pointer (some ⟨g,0,none⟩),nzA k a s n A la cA B lb cB] w (StatP N lo w g r m'):=by
 obtain ⟨wn,hwn,hbn,hXn,hsn⟩:=q05 w (nB k a s n A la cA B lb cB);have HIN:=Hi (hC wn hbn);have HU0:=Hi (Upd.of_below hbn N);have HW:=Hi hwn;have HSN:=Hi hsn;obtain ⟨⟨e0,e1,e2,e3,e4,e5⟩,z0,z1,z2,z3,z4,z5⟩:=Blk.c6 hXn;clear hc hbn hXn hwn hsn hC;subst hk;go_enter Tryz.func119,Tryz.ntmps119;go_wp2_with fail
 rw [HW.out];refine (show Calls Tryz.prog 145 #[.pointer (some ⟨g,0,none⟩),nzA 9 a s n A la cA B lb cB] wn _ from HIN.out).mono ?_;intro e w1 h1;clear e0 e1 e2 e3 e4 e5 z0 z1 z2 z3 z4 z5;cases r with
 | bad a1=>
  exact V0c
 | ok d=>
  exact V0b
theorem st11(w:World)(N:Nat->Prop)(lo g:Nat)(c:St)(m:Nat)(k a:Int)(s:Bs)(n:Nat)(A:Option Addr)(la cA:Nat)(B:Option Addr)(lb cB:Nat)(r:Rs)(m':Nat)(hk:k = 11)(hc:CK N lo w g c m)
  (hC:∀ wn,Below w.heap.size w wn->Calls Tryz.prog 146 #[.pointer (some ⟨g,0,none⟩),nzA k a s n A la cA B lb cB] wn (StatP (In2 N w wn) lo wn g r m')) :
  Calls Tryz.prog 119 #[.pointer (some ⟨g,0,none⟩),nzA k a s n A la cA B lb cB] w (StatP N lo w g r m'):=by
 obtain ⟨wn,hwn,hbn,hXn,hsn⟩:=q05 w (nB k a s n A la cA B lb cB);have HIN:=Hi (hC wn hbn);have HU0:=Hi (Upd.of_below hbn N);have HW:=Hi hwn;have HSN:=Hi hsn;obtain ⟨⟨e0,e1,e2,e3,e4,e5⟩,z0,z1,z2,z3,z4,z5⟩:=Blk.c6 hXn;clear hc hbn hXn hwn hsn hC;subst hk;go_enter Tryz.func119,Tryz.ntmps119;go_wp2_with fail
 rw [HW.out];refine (show Calls Tryz.prog 146 #[.pointer (some ⟨g,0,none⟩),nzA 11 a s n A la cA B lb cB] wn _ from HIN.out).mono ?_;intro e w1 h1;clear e0 e1 e2 e3 e4 e5 z0 z1 z2 z3 z4 z5;cases r with
 | bad a1=>
  exact V0c
 | ok d=>
  exact V0b
theorem stX(w:World)(N:Nat->Prop)(lo g:Nat)(c:St)(m:Nat)(k a:Int)(s:Bs)(n:Nat)(A:Option Addr)(la cA:Nat)(B:Option Addr)(lb cB:Nat)(hk:k≠6/\k≠7/\k≠12/\k≠10/\k≠8/\k≠9/\k≠11)(hc:CK N lo w g c m) :
  Calls Tryz.prog 119 #[.pointer (some ⟨g,0,none⟩),nzA k a s n A la cA B lb cB] w (StatP N lo w g (.ok c) m):=by
 obtain ⟨wn,hwn,hbn,hXn,hsn⟩:=q05 w (nB k a s n A la cA B lb cB);have HC0:=Hi (q0c hc hbn);have HU0:=Hi (Upd.of_below hbn N);have HW:=Hi hwn;have HSN:=Hi hsn;obtain ⟨⟨e0,e1,e2,e3,e4,e5⟩,z0,z1,z2,z3,z4,z5⟩:=Blk.c6 hXn;obtain ⟨k6,k7,k12,k10,k8,k9,k11⟩:=hk;have j6:(k==6)=false:=V4;have j7:(k==7)=false:=V4;have j12:(k==12)=false:=V4;have j10:(k==10)=false:=V4;have j8:(k==8)=false:=V4;have j9:(k==9)=false:=V4;have j11:(k==11)=false:=V4;have HEND:=Hi (show StatP N lo w g (.ok c) m (.returned (.tuple #[])) wn from ⟨rfl,q2f HC0.out V9,HU0.out⟩);clear hc hbn hXn hwn hsn k6 k7 k12 k10 k8 k9 k11;go_enter Tryz.func119,Tryz.ntmps119;go_wp2_with fail
 rw [HW.out]
 first | go_end0 | skip
 all_goals first | exact HEND.out | exact bodyPost_ret (results_none rfl _ _ _) rfl HEND.out
theorem StatP.more{N:Nat->Prop}{lo:Nat}{w:World}{g:Nat}{r:Rs}{m m':Nat}{e:Ending}{w':World}(h:StatP N lo w g r m e w')(hm:m<=m'):StatP N lo w g r m' e w':=by
 cases r with
 | bad a=>exact h
 | ok c=>exact ⟨h.1,h.2.1.more hm,h.2.2⟩
theorem statement:∀ M,StC M
 | 0=>fun z h=>absurd h (Nat.not_lt_zero _)
 | M+1=>by
  intro z hM w0 w N lo g c m k a s n A la cA B lb cB hb hT hlz hN hc hso hm;obtain ⟨k1,a1,s1,n1,ps,l⟩:=z;have hcap:=q4E hT;obtain ⟨rfl,rfl,rfl,rfl,rfl,rfl,hl,hp,hB,_⟩:=q18 hT;have hT2:=hT;unfold TIc at hT2;obtain ⟨A1,cA1,B1,cB1,h1,_,_,_,css,hL,hS,_⟩:=hT2;unfold nzC at h1;simp only [List.cons.injEq,Value.slice.injEq,true_and,and_true] at h1;obtain ⟨⟨rfl,rfl⟩,rfl,rfl⟩:=h1;obtain ⟨hs,hpl,hls⟩:=q1a hlz;have hsz:∀ (i:Nat) (x:Tz),l[i]?=some x->SizeOf.sizeOf x < M:=fun i x h=>by
   have:=q0n (k:=k) (a:=a) (n:=n) (s:=s) (ps:=ps) h;omega
  have hnb:nbz (.mk k a s n ps l)=ps.length+1+nbzs l:=rfl;have hlow:∀ wn,Below w.heap.size w wn->∀ b,In2 N w wn b->w0.heap.size<=b:=fun wn hbn=>q0R hN (Nat.le_trans hb.size hbn.size)
  unfold stB;by_cases h6:k = 6
  ·subst h6;rw [if_pos rfl];exact (st6 w0 w N lo g c m a s n A l.length cA B cB ps hb hB hp hpl hN hc V0).mono fun e w' h=>h.more V0
  rw [if_neg h6];by_cases h7:k = 7
  ·subst h7;rw [if_pos rfl];exact (st7 w0 w N lo g c m a s n A l.length cA B cB ps hb hB hp hpl hN hc V0).mono fun e w' h=>h.more V0
  rw [if_neg h7];by_cases h12:k = 12
  ·rw [if_pos h12];exact st12 w N lo g c m k a s n A l.length cA B ps.length cB _ _ h12 hc fun wn hbn=>(function w0 wn (In2 N w wn) lo g c m k a s n A cA B cB ps l css (hb.trans (hbn.mono hb.size)) hL (q0J hS) hcap hB hp hpl hs hls (hlow wn hbn) (q0c hc hbn) V0).mono fun e w' h=>h.more V0
  rw [if_neg h12];by_cases h10:k = 10
  ·rw [if_pos h10];exact st10 w N lo g c m k a s n A l.length cA B ps.length cB _ _ h10 hc fun wn hbn=>(let_ w0 wn (In2 N w wn) lo g c m k a s n A cA B ps.length cB l css (hb.trans (hbn.mono hb.size)) hL (q0J hS) hcap hs hls (hlow wn hbn) (q0c hc hbn) V0).mono fun e w' h=>h.more V0
  rw [if_neg h10];by_cases h8:k = 8
  ·rw [if_pos (.inl h8)];exact st8 w N lo g c m k a s n A l.length cA B ps.length cB _ _ h8 hc fun wn hbn=>(output w0 wn (In2 N w wn) lo g c m k a s n A cA B ps.length cB l css (hb.trans (hbn.mono hb.size)) hL (q0J hS) hcap hs hls (hlow wn hbn) (q0c hc hbn) V0).mono fun e w' h=>h.more V0
  by_cases h9:k = 9
  ·rw [if_pos (.inr h9)];exact st9 w N lo g c m k a s n A l.length cA B ps.length cB _ _ h9 hc fun wn hbn=>(output w0 wn (In2 N w wn) lo g c m k a s n A cA B ps.length cB l css (hb.trans (hbn.mono hb.size)) hL (q0J hS) hcap hs hls (hlow wn hbn) (q0c hc hbn) V0).mono fun e w' h=>h.more V0
  rw [if_neg V0];by_cases h11:k = 11
  ·rw [if_pos h11];exact st11 w N lo g c m k a s n A l.length cA B ps.length cB _ _ h11 hc fun wn hbn=>(loop (statement M) w0 wn (In2 N w wn) lo g c m k a s n A cA B ps.length cB l css (hb.trans (hbn.mono hb.size)) hL hS hcap hsz hs hls (hlow wn hbn) (q0c hc hbn) V0).mono fun e w' h=>h.more V0
  rw [if_neg h11];exact (stX w N lo g c m k a s n A l.length cA B ps.length cB ⟨h6,h7,h12,h10,h8,h9,h11⟩ hc).mono fun e w' h=>h.more V0
section
theorem catch_idle(p q:Addr)(w:World) :
  CallsD Tryz.prog 92 #[.pointer (some p),.pointer (some q)] .returning w fun e u' w'=>e = .returned (.tuple #[])/\u' = .returning/\w'=w:=by
 have hnil:∀ w:World,(binOp BinOp.neq 20 .nilIface .nilIface).run Tryz.prog w = .ok (.bool false) w:=fun _=>V1
 refine callsD_of_wpS Tryz.func92 rfl fun c₀ cs hu=>?_
 apply wpS_seq;apply wpS_region;simp [wpOpsS,go_sem,recoverD,hu,Tryz.ntmps92,Exit.thenS];refine wpS_of_wp ?_;go_wp2_with fail
 cases c₀
 simp_all [bodyPostS,results,Tryz.results92]
theorem fWr0(a:Int)(w:World):(Instr.field 152 (.agg #[.int .i64 a]) 0).run Tryz.prog w = .ok (.int .i64 a) w:=V1
attribute [local go_sem] fWr0
theorem catch_wrong(g:Nat)(a:Int)(w:World){a0 q0:Value}(ha:Blk w g 3 #[a0])(he:Blk w (g+1) 27 #[q0]) :
  CallsD Tryz.prog 92 #[.pointer (some ⟨g,0,none⟩),.pointer (some ⟨g+1,0,none⟩)] (.panicking [{ v:=.iface 152 (.agg #[.int .i64 a]),recovered:=false }]) w fun e u' w'=>e = .returned (.tuple #[]) /\
   u' = .panicking [{ v:=.iface 152 (.agg #[.int .i64 a]),recovered:=true }]/\Blk w' g 3 #[.int .i64 a]/\Blk w' (g+1) 27 #[.int .i64 120]/\Upd (fun b=>b=g\/b=g+1) w w':=by
 have hne:∀ w:World,(binOp BinOp.neq 20 (.iface 152 (.agg #[.int .i64 a])) .nilIface).run Tryz.prog w = .ok (.bool true) w:=fun _=>V1
 have hta:∀ w:World,(Instr.typeAssert (.iface 152 (.agg #[.int .i64 a])) 20 152 false).run Tryz.prog w = .ok (.agg #[.int .i64 a]) w:=fun _=>V1
 refine callsD_of_wpS Tryz.func92 rfl fun c₀ cs hu=>?_
 apply wpS_seq;apply wpS_region;simp [wpOpsS,go_sem,recoverD,hu,Tryz.ntmps92,Exit.thenS];refine wpS_of_wp ?_;simp only [Array.replicate_succ,Array.replicate_zero,List.push_toArray,List.setIfInBounds_toArray,List.set_cons_succ,List.set_cons_zero,List.append_toArray,List.cons_append,List.nil_append];have c1:w.cell? ⟨g,0,none⟩=some a0:=ha.cell 0;have c2:w.cell? ⟨g+1,0,none⟩=some q0:=he.cell 0;have f1:=ha.frozen 0;have f2:=he.frozen 0;have hg01:g≠g+1:=V0;have HA:=Hi ((ha.set 0 (.int .i64 a)).far (p:=⟨g+1,0,none⟩) hg01 (.int .i64 120));have HE:=Hi ((he.far (p:=⟨g,0,none⟩) (Ne.symm hg01) (.int .i64 a)).set 0 (.int .i64 120));have HU:=Hi (((Upd.refl (fun b=>b=g\/b=g+1) w).setCell (p:=⟨g,0,none⟩) (fun _=>.inl rfl) (.int .i64 a)).setCell (p:=⟨g+1,0,none⟩) (fun _=>.inr rfl) (.int .i64 120));clear ha he;go_wp2_with fail
 exact ⟨rfl,_,rfl,_,results_none rfl _ _ _,rfl,rfl,HA.out,HE.out,HU.out⟩
theorem isAgI(w:World):(isAgg 3).run Tryz.prog w = .ok false w:=Go.Proofs.run_isAgg_plain Tryz.underlying3 rfl w
theorem isAgE(w:World):(isAgg 27).run Tryz.prog w = .ok false w:=Go.Proofs.run_isAgg_plain Tryz.underlying27 rfl w
theorem boxes3(w:World)(cs:Array Value):∃ w0,((w.alloc (.cells cs 26)).alloc (.cells #[.int .i64 0] 3)).alloc (.cells #[.int .i64 0] 27)=w0/\Below w.heap.size w w0/\w0.heap.size=w.heap.size+3 /\
  Blk w0 w.heap.size 26 cs/\Blk w0 (w.heap.size+1) 3 #[.int .i64 0]/\Blk w0 (w.heap.size+2) 27 #[.int .i64 0]:=by
 refine ⟨_,rfl,(((Below.refl _ _).alloc (Nat.le_refl _) _).alloc V3 _).alloc V4 _,V3,((Blk.new _ _ _).alloc _).alloc _,?_,?_⟩
 ·have h:=(Blk.new (w.alloc (.cells cs 26)) 3 #[.int .i64 0]).alloc (.cells #[.int .i64 0] 27);exact V4c
 ·have h:=Blk.new ((w.alloc (.cells cs 26)).alloc (.cells #[.int .i64 0] 3)) 27 #[.int .i64 0];have e:((w.alloc (.cells cs 26)).alloc (.cells #[.int .i64 0] 3)).heap.size=w.heap.size+2:=V3;rw [e] at h;exact h
def PrgP(N:Nat->Prop)(lo:Nat)(w:World)(g:Nat)(r:Rs)(m:Nat)(e:Ending)(w':World):Prop:=
 match r with | .ok c=>e = .returned (.tuple #[.int .i64 0,.int .i64 0])/\CK (New N w) lo w' g c m/\Upd N w w' | .bad a=>e = .returned (.tuple #[.int .i64 a,.int .i64 120])/\Upd N w w'
theorem res2{g:Nat}{a b:Value}{W:World}(hA:Blk W (g+1) 3 #[a])(hE:Blk W (g+2) 27 #[b])(tmps:Array Value)(h4:tmps.getD 4 undef = .pointer (some ⟨g+1,0,none⟩))(h5:tmps.getD 5 undef = .pointer (some ⟨g+2,0,none⟩)) :
  (results Tryz.f59 tmps).run Tryz.prog W = .ok (.tuple #[a,b]) W:=
 q1b rfl tmps W (g+1) (g+2) a b h4 h5 (q03 (isAgI W) (hA.cell 0)) (q03 (isAgE W) (hE.cell 0))
theorem program(w0 w:World)(N:Nat->Prop)(lo g:Nat)(c:St)(m:Nat)(k a:Int)(s:Bs)(n:Nat)(A:Option Addr)(cA:Nat)(B:Option Addr)(lb cB:Nat)(l:List Tz)(css:List (List Value))(hb:Below w0.heap.size w0 w)(hL:Lies w0 A css.flatten)(hS:TsIc True w0 l css)(hl:l.length<=maxLen)
  (hlz:lenzs l) (hN:∀ b,N b->w0.heap.size<=b) (hc:CK N lo w g c m) (hm:m+nbzs l<=1099511627776) :
  Calls Tryz.prog 59 #[.pointer (some ⟨g,0,none⟩),nzA k a s n A l.length cA B lb cB] w (PrgP N lo w g (stBs 0 l c) (m+nbzs l)):=by
 obtain ⟨wn,hwn,hbn,hsn,hXn,hAn,hEn⟩:=boxes3 w (nB k a s n A l.length cA B lb cB);have hb0:=hb.trans (hbn.mono hb.size);have hC0:=q0c hc hbn;have HST:=Hi (statements (statement (SizeOf.sizeOf l+1)) w0 wn (In2 N w wn) lo g c m A cA l css hb0 hL hS hl hlz (fun i x h=>Nat.lt_succ_of_lt (List.sizeOf_lt_of_mem (List.mem_of_getElem? h))) (q0R (w:=w) hN (Nat.le_trans hb.size hbn.size)) hC0 hm);have HU0:=Hi (Upd.of_below hbn N);have HA:=Hi hAn;have HE:=Hi hEn;have HW:=Hi hwn;have HSN:=Hi hsn;obtain ⟨⟨e0,e1,e2,e3,e4,e5⟩,z0,z1,z2,z3,z4,z5⟩:=Blk.c6 hXn;have hmf:∀ (fn:Fn) (first cap:Array Value) (w:World),(Instr.makeFunc fn first cap).run Tryz.prog w = .ok (.func fn first cap) w:=fun _ _ _ _=>rfl
 obtain ⟨res,hres⟩:∃ res,stBs 0 l c=res:=⟨_,rfl⟩;rw [hres] at HST ⊢;have HNI:=Hi (show ∀ b,w.heap.size<=b->b < w.heap.size+3->¬ In2 N w wn b from fun b h1 h2 h=>by
  rcases h with h | h
  ·have:=h.2;omega
  ·omega)
 obtain ⟨g0,hg0⟩:∃ g0,w.heap.size=g0:=⟨_,rfl⟩;have HG0:=Hi hg0;rw [hg0] at HA HE HNI e0 e1 e2 e3 e4 e5 z0 z1 z2 z3 z4 z5;clear hres hbn hXn hAn hEn hwn hb hL hS hlz hm hN hc hsn hb0 hC0
 go_enter_defers Tryz.func59,Tryz.ntmps59
 go_wp2_with fail
 simp only [Nat.add_assoc,Nat.reduceAdd];rw [HW.out];refine (show Calls Tryz.prog 93 #[.pointer (some ⟨g,0,none⟩),.slice A l.length cA] wn _ from HST.out).mono ?_;intro e w1 h1;clear e0 e1 e2 e3 e4 e5 z0 z1 z2 z3 z4 z5;cases res with
 | bad a1=>
  obtain ⟨rfl,hu1⟩:=h1;have hA1:=HA.out.upd hu1 (HNI.out _ V0 V0);have hE1:=HE.out.upd hu1 (HNI.out _ V0 V0);have HU1:=Hi (q0i HU0.out hu1 V9);have HA1:=Hi hA1;have HE1:=Hi hE1;clear hu1;go_wp2_with fail
  refine leaves_cons (f:=92) (args:=#[.pointer (some ⟨g0+1,0,none⟩),.pointer (some ⟨g0+2,0,none⟩)]) V3 VM ?_;refine (catch_wrong (g0+1) a1 w1 HA1.out HE1.out).mono ?_;rintro e u' w4 ⟨rfl,rfl,hA4,hE4,hU4⟩;exact ⟨_,res2 hA4 hE4 _ rfl rfl,rfl,q01 HU1.out hU4 fun b hb hlt=>VG⟩
 | ok d=>
  obtain ⟨rfl,hc1,hu1⟩:=h1;have hA1:=HA.out.upd hu1 (HNI.out _ V0 V0);have hE1:=HE.out.upd hu1 (HNI.out _ V0 V0);have HU1:=Hi (q0i HU0.out hu1 V9);have HC1:=Hi (q1v hc1 (Nat.le_refl _));have c1:w1.cell? ⟨g0+1,0,none⟩=some (.int .i64 0):=hA1.cell 0;have c2:w1.cell? ⟨g0+2,0,none⟩=some (.int .i64 0):=hE1.cell 0;have f1:=hA1.frozen 0;have f2:=hE1.frozen 0;have hg12:g0+1≠g0+2:=V0;have HA2:=Hi (show Blk _ (g0+1) 3 #[.int .i64 0] from (hA1.set 0 (.int .i64 0)).far (p:=⟨g0+2,0,none⟩) hg12 (.int .i64 0));have HE2:=Hi (show Blk _ (g0+2) 27 #[.int .i64 0] from (hE1.far (p:=⟨g0+1,0,none⟩) (Ne.symm hg12) (.int .i64 0)).set 0 (.int .i64 0));have hu2:=((Upd.refl (fun b=>b=g0+1\/b=g0+2) w1).setCell (p:=⟨g0+1,0,none⟩) (fun _=>.inl rfl) (.int .i64 0)).setCell (p:=⟨g0+2,0,none⟩) (fun _=>.inr rfl) (.int .i64 0);have HC2:=Hi (q2f (HC1.out.far hu2 fun b hb h=>by rcases h with h | h <;> exact HNI.out b V0 V0 hb) V9);have HU2:=Hi (q01 HU1.out hu2 fun b hb hlt=>VG);clear hu1 hc1 hA1 hE1 hu2;go_wp2_with fail
  refine leaves_cons (f:=92) (args:=#[.pointer (some ⟨g0+1,0,none⟩),.pointer (some ⟨g0+2,0,none⟩)]) V3 VM ?_;refine (catch_idle ⟨g0+1,0,none⟩ ⟨g0+2,0,none⟩ _).mono ?_;rintro e u' w7 ⟨rfl,rfl,rfl⟩;exact ⟨_,res2 HA2.out HE2.out _ rfl rfl,rfl,HC2.out,HU2.out⟩
end
theorem q1O{w w':World}{b:Nat}(h:w.mapTurned w' b):w'.heap.size=w.heap.size:=by
 obtain ⟨es,clock,es',clock',_,rfl⟩:=h;simp [ChangeMaps.setBlock]
def nil3:Array Value:=#[.slice none 0 0,.slice none 0 0,.slice none 0 0]
def NaP(lo:Nat)(w:World)(vs vp vo:Value)(c:St):Prop:=
 w.ownsRow lo 9 1 vs c.se.length (c.se.map strV)/\w.ownsRow lo 9 1 vp c.pu.length (c.pu.map strV)/\w.ownsRow lo 36 3 vo c.ou.length (c.ou.flatMap laC)/\c.se.length<=1099511627776/\c.pu.length<=1099511627776/\c.ou.length<=1099511627776
def ChkP(w:World)(r:Rs)(e:Ending)(w':World):Prop:=
 match r with
 | .ok c=>∃ vs vp vo,e = .returned (.tuple #[.agg #[vs,vp,vo],.int .i64 0,.int .i64 0])/\NaP w.heap.size w' vs vp vo c/\Below w.heap.size w w'
 | .bad a=>e = .returned (.tuple #[.agg nil3,.int .i64 a,.int .i64 120])/\Below w.heap.size w w'
theorem szNm:(Tryz.prog.info? 39).map (·.size)=some 3:=V1
theorem q4I{fn:Func}{p q r:Tmp}{tx:TypeId}(h:fn.results = #[.cell p tx,.tmp q,.tmp r]){P:Program}(tmps:Array Value)(w:World)(g1:Nat)(v1:Value)
  (hp:tmps.getD p undef = .pointer (some ⟨g1,0,none⟩)) (h1:(loadVar tx ⟨g1,0,none⟩).run P w = .ok v1 w) :
  (results fn tmps).run P w = .ok (.tuple #[v1,tmps.getD q undef,tmps.getD r undef]) w:=by
 have hp':tmps[p]?.getD undef = .pointer (some ⟨g1,0,none⟩):=VF;simp [results,h,hp',asAddr,h1]
theorem resNm{g:Nat}{n:Array Value}{W:World}(hN:Blk W g 39 n)(hs:some 3=some n.size)(tmps:Array Value)(h2:tmps.getD 2 undef = .pointer (some ⟨g,0,none⟩)) :
  (results Tryz.f28 tmps).run Tryz.prog W = .ok (.tuple #[.agg n,tmps.getD 3 undef,tmps.getD 4 undef]) W:=
 q4I rfl tmps W g (.agg n) h2 (run_loadVar_row W g 39 39 n (0,0) _ hN Tryz.underlying39 rfl (szNm.trans hs))
theorem q5j{w:World}{lo lo':Nat}{e:TypeId}{size n:Nat}{v:Value}{xs:List Value}(h:w.ownsRow lo e size v n xs)(hl:lo'<=lo):w.ownsRow lo' e size v n xs:=⟨h.1,h.2.imp id fun ⟨g,cap,cur,a,b,r⟩=>⟨g,cap,cur,a,Nat.le_trans hl b,r⟩⟩
theorem q7N{w:World}{lo kb ob g:Nat}(hg:Blk w g 109 #[.slice none 0 0,.slice none 0 0,.slice none 0 0,.map (some kb),.map (some ob),.slice none 0 0])(hk:MpK w kb 1 init.kn)(ho:MpS w ob 0 (fun _=>false))(hlo:lo<=kb/\kb < ob/\ob < g):CK (fun b=>lo<=b) lo w g init 1:=by
 refine ⟨⟨_,_,_,_,kb,ob,hg,World.ownsRow_nil _ _ _ _,World.ownsRow_nil _ _ _ _,World.ownsRow_nil _ _ _ _,World.ownsRow_nil _ _ _ _,hk,ho.mono V2,?_,?_,V0,V0,V0,by have:=hg.lt;omega⟩,⟨Nat.zero_le _,Nat.zero_le _,Nat.zero_le _,Nat.zero_le _⟩,fun s hs=>by cases hs⟩
 ·have h1:g≠kb:=by omega
  have h2:g≠ob:=V0;have h3:kb≠ob:=V0;unfold Dis;simp [Value.ownBlock,h1,h2,h3,Ne.symm h1,Ne.symm h2,Ne.symm h3]
 ·intro x hx b hb;simp only [List.mem_cons,List.not_mem_nil,or_false] at hx;rcases hx with rfl | rfl | rfl | rfl | rfl | rfl | rfl
  ·cases hb;omega
  ·cases hb;omega
  ·cases hb;omega
  ·cases hb
  ·cases hb
  ·cases hb
  ·cases hb
theorem check(z:Tz)(hlz:lenz z)(hm:nbz z<=1099511627776)(w:World)(k a:Int)(s:Bs)(n:Nat)(A:Option Addr)(la cA:Nat)(B:Option Addr)(lb cB:Nat)(hT:TIc True w z (nzC k a s n A la cA B lb cB)) :
  Calls Tryz.prog 28 #[nzA k a s n A la cA B lb cB] w (ChkP w (ckB z)):=by
 obtain ⟨k1,a1,s1,n1,ps,l⟩:=z;obtain ⟨rfl,rfl,rfl,rfl,rfl,rfl,hl,_,_,css,hL,hS⟩:=q18 hT;have hck:ckB (.mk k a s n ps l)=stBs 0 l init:=rfl;rw [hck];obtain ⟨w1,hw1,hb1,hX1,hs1⟩:=q05 w (nB k a s n A l.length cA B ps.length cB);obtain ⟨w2,hw2⟩:∃ w2,w1.alloc (.cells nil3 39)=w2:=⟨_,rfl⟩;have hb2:Below w1.heap.size w1 w2:=V1M;have hR2:Blk w2 w1.heap.size 39 nil3:=by rw [<-hw2];exact Blk.new _ _ _
 have hs2:w2.heap.size=w1.heap.size+1:=V02;rw [hs1] at hR2;obtain ⟨w3,hw3⟩:∃ w3,w2.alloc (.map #[] 0)=w3:=⟨_,rfl⟩;have hb3:Below w2.heap.size w2 w3:=V0N;have hs3:w3.heap.size=w2.heap.size+1:=by rw [<-hw3];simp
 have hm3:MpK w3 w2.heap.size 0 (fun _=>none):=by rw [<-hw3];exact MpK.made w2
 obtain ⟨kb,hkb⟩:∃ kb,w2.heap.size=kb:=⟨_,rfl⟩;have hmk1:(Instr.makeMap 105 none).run Tryz.prog w2 = .ok (.map (some kb)) w3:=by rw [<-hw3,<-hkb];exact run_makeMap _ _
 rw [hkb] at hm3;obtain ⟨w4,hrun,hm4,ht4⟩:=hm3.put (s:=sel) V2 V2 (1,3) V2 V2;have hrun':(Instr.mapUpdate 105 (.map (some kb)) (.string ⟨#[115,101,108]⟩) (.agg #[.int .i64 1,.int .i64 3])).run Tryz.prog w3 = .ok () w4:=hrun;have hs4:=q1O ht4;have hu4:Upd (fun b=>b=kb) w3 w4:=q08 ht4 rfl;obtain ⟨w5,hw5⟩:∃ w5,w4.alloc (.map #[] 0)=w5:=⟨_,rfl⟩;have hb5:Below w4.heap.size w4 w5:=V1N;have hs5:w5.heap.size=w4.heap.size+1:=V1a;have ho5:MpS w5 w4.heap.size 0 (fun _=>false):=by rw [<-hw5];exact MpS.made w4
 obtain ⟨ob,hob⟩:∃ ob,w4.heap.size=ob:=⟨_,rfl⟩;have hmk2:(Instr.makeMap 107 none).run Tryz.prog w4 = .ok (.map (some ob)) w5:=by rw [<-hw5,<-hob];exact run_makeMap _ _
 rw [hob] at ho5;obtain ⟨w6,hw6,hb6,hX6⟩:=alK w5 #[.slice none 0 0,.slice none 0 0,.slice none 0 0,.map (some kb),.map (some ob),.slice none 0 0] 109;obtain ⟨g,hg⟩:∃ g,w5.heap.size=g:=⟨_,rfl⟩;rw [hg] at hX6;have hb26:Upd (fun b=>b=kb) w2 w6:=(((Upd.of_below hb3 _).trans hu4).trans (Upd.of_below hb5 _)).trans (Upd.of_below hb6 _);have hb06:Below w.heap.size w w6:=(hb1.trans (hb2.mono hb1.size)).trans (hb26.below V0 fun b hb=>V0);have hR6:Blk w6 (w.heap.size+1) 39 nil3:=hR2.upd hb26 V0;have hN6:Blk w6 w.heap.size 26 (nB k a s n A l.length cA B ps.length cB):=(hX1.below hb2 hX1.lt).upd hb26 V0;have hK6:MpK w6 kb 1 init.kn:=(hm4.upd (Upd.of_below hb5 fun _=>False) id).upd (Upd.of_below hb6 fun _=>False) id;have hO6:MpS w6 ob 0 (fun _=>false):=ho5.upd (Upd.of_below hb6 fun _=>False) id;have hCK:CK (fun b=>w.heap.size+2<=b) (w.heap.size+2) w6 g init 1:=q7N hX6 hK6 hO6 V0;have hnb:nbz (.mk k a s n ps l)=ps.length+1+nbzs l:=rfl;have HPR:=Hi (program w w6 (fun b=>w.heap.size+2<=b) (w.heap.size+2) g init 1 k a s n A cA B ps.length cB l css hb06 hL hS hl (q1a hlz).2.2 (fun b hb=>V0) hCK V0);have HW1:=Hi hw1;have HW2:=Hi hw2;have HW6:=Hi hw6;have HB6:=Hi hb06;have HR6:=Hi hR6;have HG:=Hi hg;obtain ⟨⟨e0,e1,e2,e3,e4,e5⟩,z0,z1,z2,z3,z4,z5⟩:=Blk.c6 hN6;obtain ⟨res,hres⟩:∃ res,stBs 0 l init=res:=⟨_,rfl⟩;rw [hres] at HPR ⊢;have hmm:1+nbzs l<=1099511627776:=V0;clear hT hL hS hl hlz hm hw1 hb1 hX1 hs1 hw2 hb2 hR2 hs2 hw3 hb3 hs3 hm3 hkb hm4 ht4 hs4 hu4 hw5 hb5 hs5 ho5 hob hw6 hb6 hX6 hg hb26 hb06 hR6 hN6 hK6 hO6 hCK hck hnb hrun hres;go_enter Tryz.func28,Tryz.ntmps28;go_upto_region 1 with fail
 rw [HW1.out];rw [show w1.alloc (.cells #[.slice none 0 0,.slice none 0 0,.slice none 0 0] 39)=w2 from HW2.out];go_upto_region 2 with fail
 rw [HW6.out,HG.out];go_wp2_with fail
 refine (show Calls Tryz.prog 59 #[.pointer (some ⟨g,0,none⟩),nzA k a s n A l.length cA B ps.length cB] w6 _ from HPR.out).mono ?_;intro e w7 h7;clear e0 e1 e2 e3 e4 e5 z0 z1 z2 z3 z4 z5 hmk1 hmk2 hrun';cases res with
 | bad a1=>
  obtain ⟨rfl,hu7⟩:=h7;have hR7:=HR6.out.upd hu7 V0;obtain ⟨q0,q1,q2,y0,y1,y2⟩:=Blk.c3 (show Blk w7 (w.heap.size+1) 39 #[.slice none 0 0,.slice none 0 0,.slice none 0 0] from hR7);have HB7:=Hi (HB6.out.trans (hu7.below HB6.out.size fun b hb=>V0));have hRR:=Blk.put3 (show Blk w7 (w.heap.size+1) 39 #[.slice none 0 0,.slice none 0 0,.slice none 0 0] from hR7) (.slice none 0 0) (.slice none 0 0) (.slice none 0 0);have HRR:=Hi hRR;have HEND:=Hi (show ChkP w (.bad a1) (.returned (.tuple #[.agg nil3,.int .i64 a1,.int .i64 120])) (((w7.setCell ⟨w.heap.size+1,0,none⟩ (.slice none 0 0)).setCell ⟨w.heap.size+1,1,none⟩ (.slice none 0 0)).setCell ⟨w.heap.size+1,2,none⟩ (.slice none 0 0)) from
   ⟨rfl,((HB7.out.setCell (p:=⟨w.heap.size+1,0,none⟩) (Nat.le_succ _) _).setCell (p:=⟨w.heap.size+1,1,none⟩) (Nat.le_succ _) _).setCell (p:=⟨w.heap.size+1,2,none⟩) (Nat.le_succ _) _⟩)
  clear hu7 hR7 hRR;go_wp2_with fail
  exact bodyPost_ret (v:=.tuple #[.agg nil3,.int .i64 a1,.int .i64 120]) (resNm HRR.out rfl _ rfl) rfl HEND.out
 | ok c=>
  obtain ⟨rfl,hc7,hu7⟩:=h7;have hR7:=HR6.out.upd hu7 V0;obtain ⟨q0,q1,q2,y0,y1,y2⟩:=Blk.c3 (show Blk w7 (w.heap.size+1) 39 #[.slice none 0 0,.slice none 0 0,.slice none 0 0] from hR7);have HB7:=Hi (HB6.out.trans (hu7.below HB6.out.size fun b hb=>V0));obtain ⟨⟨vs,vp,vo,ve,kb2,ob2,hv⟩,hbd7,_⟩:=hc7;have HBD:=Hi (show c.se.length<=1099511627776/\c.pu.length<=1099511627776/\c.ou.length<=1099511627776 from ⟨by have:=hbd7.1;omega,by have:=hbd7.2.1;omega,by have:=hbd7.2.2.1;omega⟩);clear hbd7;have c0:w7.cell? ⟨g,0,none⟩=some vs:=hv.blk.cell 0;have c1:w7.cell? ⟨g,1,none⟩=some vp:=hv.blk.cell 1;have c2:w7.cell? ⟨g,2,none⟩=some vo:=hv.blk.cell 2;obtain ⟨As,cs,rfl⟩:=q0l hv.os;obtain ⟨Ap,cp,rfl⟩:=q0l hv.op;obtain ⟨Ao,co,rfl⟩:=q0l hv.oo;have hlt:=hv.blk.lt;have hRR:=Blk.put3 (show Blk w7 (w.heap.size+1) 39 #[.slice none 0 0,.slice none 0 0,.slice none 0 0] from hR7) (.slice As c.se.length cs) (.slice Ap c.pu.length cp) (.slice Ao c.ou.length co);have HRR:=Hi hRR;have hun:Upd (fun b=>b=w.heap.size+1) w7 (((w7.setCell ⟨w.heap.size+1,0,none⟩ (.slice As c.se.length cs)).setCell ⟨w.heap.size+1,1,none⟩ (.slice Ap c.pu.length cp)).setCell ⟨w.heap.size+1,2,none⟩ (.slice Ao c.ou.length co)):=(((Upd.refl (fun b=>b=w.heap.size+1) w7).setCell (p:=⟨w.heap.size+1,0,none⟩) (fun _=>rfl) _).setCell (p:=⟨w.heap.size+1,1,none⟩) (fun _=>rfl) _).setCell (p:=⟨w.heap.size+1,2,none⟩) (fun _=>rfl) _;have hno:∀ b,w.heap.size+2<=b->¬ b=w.heap.size+1:=fun b hb=>V0
  have HEND:=Hi (show ChkP w (.ok c) (.returned (.tuple #[.agg #[.slice As c.se.length cs,.slice Ap c.pu.length cp,.slice Ao c.ou.length co],.int .i64 0,.int .i64 0])) (((w7.setCell ⟨w.heap.size+1,0,none⟩ (.slice As c.se.length cs)).setCell ⟨w.heap.size+1,1,none⟩ (.slice Ap c.pu.length cp)).setCell ⟨w.heap.size+1,2,none⟩ (.slice Ao c.ou.length co)) from
   ⟨_,_,_,rfl,⟨q5j (own_updV hv.os hun fun b hb=>hno b (own_atV hv.os b hb).1) V0,q5j (own_updV hv.op hun fun b hb=>hno b (own_atV hv.op b hb).1) V0,q5j (own_updV hv.oo hun fun b hb=>hno b (own_atV hv.oo b hb).1) V0,HBD.out⟩,HB7.out.trans (hun.below HB7.out.size fun b hb=>V0)⟩)
  clear hu7 hR7 hRR hv hun hno;go_wp2_with fail
  exact bodyPost_ret (v:=.tuple #[.agg #[.slice As c.se.length cs,.slice Ap c.pu.length cp,.slice Ao c.ou.length co],.int .i64 0,.int .i64 0]) (resNm HRR.out rfl _ rfl) rfl HEND.out
end Nm
end Go.Proofs.YtcgibpdjfgjldaaGreatDoor
