/- DERIVED. NmStm, NmPg. By an AI agent. -/
import Derived.Test.YtdhoemlomojfaaaGreatDoorW01
import Derived.Test.YtdhoemlomojfaaaGreatDoorW03
import Derived.Test.YtdhoemlomojfaaaGreatDoorW21
import Derived.Test.YtdhoemlomojfaaaGreatDoorW15
import Derived.Tactics
import Derived.Tactics2
import Derived.Defers
import Derived.Recover
import Derived.Shelf.Abstract
set_option maxRecDepth 100000
set_option maxHeartbeats 8000000
set_option linter.unusedVariables false
set_option linter.unusedSimpArgs false
namespace Go.Proofs.YtdhoemlomojfaaaGreatDoor.Nm
open Go Go.ChangeShapes Go.WideShapes Go.ChangeAt Go.RowKit Lx Args Pa Sh
theorem st6(w0 w:World)(N:Nat→Prop)(lo g:Nat)(c:St)(m:Nat)(a:Int)(s:Bs)(n:Nat)(A:Option Addr)(la cA:Nat)(B:Option Addr)(cB:Nat)(ps:List Bs)(hb:Below w0.heap.size w0 w)(hB:Lies w0 B (ps.map strV))(hps:ps.length≤maxLen)(hpl:∀ p∈ps,p.length≤maxLen)
  (hN:∀ b,N b→w0.heap.size≤b) (hc:CK N lo w g c m) (hm:m+ps.length≤1099511627776) :
  Calls Tryz.prog 89 #[.pointer (some ⟨g,0,none⟩),nzA 6 a s n A la cA B ps.length cB] w (StatP N lo w g (bndR (inB a ps c) fun d=>.ok { d with se:=d.se ++ ps }) (m+ps.length)):=by
 obtain ⟨i0,hi,hz⟩:=Option.map_eq_some_iff.1 infoS;have hz0:=congrArg (·.1) hz;have hz1:=congrArg (·.2.1) hz;have hz2:=congrArg (·.2.2) hz;have HI:=Hi hi;have HZ0:=Hi hz0;have HZ1:=Hi hz1;have HZ2:=Hi hz2;clear hi hz hz0 hz1 hz2;obtain ⟨wn,hwn,hbn,hXn,hsn⟩:=a_box w (nB 6 a s n A la cA B ps.length cB);have hpm:ps.length≤9223372036854775807:=hps;have hb0:=hb.trans (hbn.mono hb.size);have hC0:=in2_start hc hbn;have HIN:=Hi (inputs w0 wn (In2 N w wn) lo g c m 6 a s n A la cA B cB ps hb0 hB hps hpl (in2_low (w:=w) hN (Nat.le_trans hb.size hbn.size)) hC0 hm);have HC0:=Hi hC0;have HU0:=Hi (Upd.of_below hbn N);have HX0:=Hi hXn;have HW:=Hi hwn;have HB0:=Hi hb0;have HB:=Hi hB;have HM:=Hi hm;have HN:=Hi (in2_low (w:=w) hN (Nat.le_trans hb.size hbn.size));have HSN:=Hi hsn;have HSE:=Hi (show c.se.length≤m from hc.bd.1);obtain ⟨res,hres⟩:∃ res,bndR (inB a ps c) (fun d=>.ok { d with se:=d.se ++ ps })=res:=⟨_,rfl⟩;rw [hres];have HRES:=Hi hres;have HEX:=Hi (fun d (h:inB a ps c = .ok d)=>(inB_ext h).2.1);generalize inB a ps c=r1 at HIN HRES HEX;obtain ⟨⟨e0,e1,e2,e3,e4,e5⟩,z0,z1,z2,z3,z4,z5⟩:=Blk.c6 hXn;clear hc hbn hXn hwn hb hB hpl hm hN hps hres hsn hb0 hC0;go_enter Tryz.func89,Tryz.ntmps89;go_wp2_with fail
 rw [HW.out];refine (show Calls Tryz.prog 112 #[.pointer (some ⟨g,0,none⟩),nzA 6 a s n A la cA B ps.length cB] wn _ from HIN.out).mono ?_;intro e w1 h1;clear e0 e1 e2 e3 e4 e5 z0 z1 z2 z3 z4 z5;cases r1 with
 | bad a1=>
  obtain ⟨rfl,hu1⟩:=h1;have HEND:=Hi (show StatP N lo w g res (m+ps.length) (panW a1) w1 from by rw [←HRES.out];exact ⟨rfl,in2_upd HU0.out hu1 (by have:=HSN.out;omega)⟩);clear hu1;go_wp2_with fail
  exact ⟨rfl,HEND.out⟩
 | ok d=>
 obtain ⟨rfl,hc1,hu1⟩:=h1;have HQ2:=Hi (show Rs.ok { d with se:=d.se ++ ps }=res from HRES.out);have HC1:=Hi (in2_new hc1 (Nat.le_refl _));have HU1:=Hi (in2_upd HU0.out hu1 (by have:=HSN.out;omega));have HB1:=Hi (below_low HB0.out hu1 HN.out);have HX1:=Hi (HX0.out.upd hu1 fun h=>by
  rcases h with h | h
  ·exact Nat.lt_irrefl _ h.2
  ·have:=HSN.out;omega)
 have hs1:=hu1.size;have hdr:Below w1.heap.size w1 w1.drew:=Below.drew (Below.refl _ _);obtain ⟨wz,hwd⟩:∃ v,w1.drew=v:=⟨_,rfl⟩;rw [hwd] at hdr;have HXz:=Hi (HX1.out.below hdr HX1.out.lt);have HUz:=Hi (upd_then HU1.out (Upd.of_below hdr fun _=>False) fun _ h=>h.elim);have HBz:=Hi (HB1.out.trans (hdr.mono HB1.out.size));obtain ⟨⟨vs,vp,vo,ve,kb,ob,hv⟩,hbd,henl⟩:=HC1.out.below hdr;have HVz:=Hi hv;have HBD:=Hi hbd;have HENL:=Hi henl;have hlse:d.se.length≤m:=by rw [HEX.out d rfl];exact HSE.out
 have HNV:=Hi (show ¬ (vs.ownBlock=some w.heap.size∨w.heap.size=g) from fun h=>by
  rcases h with h | h
  ·exact in2_ne (hv.inN _ (by simp) _ h) HSN.out rfl
  ·exact in2_ne (hv.inN _ (by simp) g rfl) HSN.out h)
 have HGV:=Hi (show vs.ownBlock≠some g by have h:=hv.ne;exact h.1.2.2.1);have hZ0:Upd (fun b=>vs.ownBlock=some b∨b=g) wz wz:=Upd.refl _ _;have hS0:Upd (fun b=>vs.ownBlock=some b) wz wz:=Upd.refl _ _;have HLz:=Hi (HB.out.below HBz.out);have hlo4:lo≤wz.heap.size:=hv.lo_.2.2.2;have hlim:m+ps.length≤1099511627776:=HM.out;clear hc1 hu1 hdr hv hbd henl HEX HRES;go_wp2_with fail
 refine HT.wp_region (Z:=fun w'=>Upd (fun b=>vs.ownBlock=some b∨b=g) wz w') (S:=fun w'=>Upd (fun b=>vs.ownBlock=some b) wz w') (st:=[12]) (by kernel_rfl) ?_;rw [hwd];clear hwd;refine HT.tm 0 rfl hZ0 (fun _=>hS0) ?_;refine HT.tm 1 rfl hZ0 (fun _=>hS0) ?_;refine HT.tm 2 rfl hZ0 (fun _=>hS0) ?_;refine HT.tm 3 rfl hZ0 (fun _=>hS0) ?_;refine HT.tm 4 rfl hZ0 (fun _=>hS0) ?_;refine HT.ts 5 rfl (by intro v hSw;have hG:=HVz.out.blk.upd hSw HGV.out;have D_:=Blk.c6 hG;clear hSw hG;go_simp;try with_reducible rfl) hZ0 hS0 ?_;refine HT.tk 6 rfl (by intro v hSw;have hA:=HXz.out.upd hSw HNV.out;have E_:=Blk.c6 hA;clear hSw hA;go_simp;try with_reducible rfl) hZ0 (fun _=>hS0) ?_;refine HT.tk 7 rfl (by intro v hSw;have hA:=HXz.out.upd hSw HNV.out;have E_:=Blk.c6 hA;clear hSw hA;go_simp;try with_reducible rfl) hZ0 (fun _=>hS0) ?_;refine HT.one (i:=8) (by kernel_rfl) rfl (fun K hK=>?_);refine step_any rfl _ _ 60 rfl lo 9 i0 (.string ⟨#[]⟩) 1 16 Tryz.underlying60 HI.out HZ0.out HZ1.out HZ2.out rfl (by decide) vs d.se.length _ rfl HVz.out.os B ps.length cB (ps.map strV) rfl (by simp) HLz.out (by intro u hu;obtain ⟨p,_,rfl⟩:=List.mem_map.1 hu;rfl) (by unfold maxLen;omega) (by omega) hlo4 ?_;intro v' w8 hown hgrow hat;obtain ⟨vA,vc,rfl⟩:=own_sl hown;have hs8:Upd (fun b=>vs.ownBlock=some b) wz w8:=hS0.grown hgrow fun b hb _=>hb
 have hz8:Upd (fun b=>vs.ownBlock=some b∨b=g) wz w8:=hs8.mono fun b hb=>.inl hb
 (try dsimp only);refine hK.out _ _ hz8 hs8 ?_;clear hK K;(try simp only [HT.pS]);refine HT.tm 9 rfl hz8 (fun _=>hs8) ?_;refine HT.tm 10 rfl hz8 (fun _=>hs8) ?_;refine HT.tm 11 rfl hz8 (fun _=>hs8) ?_;have hG8:=HVz.out.blk.upd hs8 HGV.out;obtain ⟨⟨c0,c1,c2,c3,c4,c5⟩,y0,y1,y2,y3,y4,y5⟩:=Blk.c6 hG8;have hg8:=hG8.lt;refine HT.oneS (i:=12) (by kernel_rfl) (by kernel_rfl) rfl (fun K hK=>?_);go_simp;refine hK.out _ _ (hz8.setCell (p:=⟨g,0,none⟩) (fun _=>.inr rfl) _) ?_;clear hK K;(try simp only [HT.pS]);refine HT.done (by kernel_rfl) ?_;have hown':w8.ownsRow lo 9 1 (.slice vA (d.se.length+ps.length) vc) (d.se ++ ps).length ((d.se ++ ps).map strV):=by
  rw [List.length_append,List.map_append];exact hown
 have hfin:=HVz.out.vs' (se':=d.se ++ ps) hs8 hown' (hat.imp id fun h=>⟨_,Nat.le_refl _,h⟩);have HEND:=Hi (show StatP N lo w g res (m+ps.length) (.returned (.tuple #[])) (w8.setCell ⟨g,0,none⟩ (.slice vA (d.se.length+ps.length) vc)) from by
  rw [←HQ2.out];have hb:=HBD.out;refine ⟨rfl,⟨⟨_,vp,vo,ve,kb,ob,hfin.mono fun b hb _ _=>?_⟩,⟨by show (d.se ++ ps).length≤_;rw [List.length_append];omega,hb.2.1,hb.2.2.1,hb.2.2.2⟩,HENL.out⟩,?_⟩
  ·rcases hb with (h | h) | h
   ·exact .inl h.1
   ·exact .inr (by have:=HSN.out;omega)
   ·exact .inr (by have:=HUz.out.size;omega)
  ·exact in2_upd HUz.out ((hs8.mono (Y:=In2 N w wn) fun b hb=>HVz.out.inN _ (by simp) b hb).setCell (p:=⟨g,0,none⟩) (fun _=>HVz.out.inN _ (by simp) g rfl) _) (by have:=HSN.out;omega))
 clear hown hown' hat hfin hgrow hs8 hz8 hG8 c0 c1 c2 c3 c4 c5 y0 y1 y2 y3 y4 y5 hg8 hZ0 hS0;go_wp2_with fail
 first | go_end0 | skip
 all_goals first | exact HEND.out | exact bodyPost_ret (results_none rfl _ _ _) rfl HEND.out
theorem st7(w0 w:World)(N:Nat→Prop)(lo g:Nat)(c:St)(m:Nat)(a:Int)(s:Bs)(n:Nat)(A:Option Addr)(la cA:Nat)(B:Option Addr)(cB:Nat)(ps:List Bs)(hb:Below w0.heap.size w0 w)(hB:Lies w0 B (ps.map strV))(hps:ps.length≤maxLen)(hpl:∀ p∈ps,p.length≤maxLen)
  (hN:∀ b,N b→w0.heap.size≤b) (hc:CK N lo w g c m) (hm:m+ps.length≤1099511627776) :
  Calls Tryz.prog 89 #[.pointer (some ⟨g,0,none⟩),nzA 7 a s n A la cA B ps.length cB] w (StatP N lo w g (bndR (inB a ps c) fun d=>.ok { d with pu:=d.pu ++ ps }) (m+ps.length)):=by
 obtain ⟨i0,hi,hz⟩:=Option.map_eq_some_iff.1 infoS;have hz0:=congrArg (·.1) hz;have hz1:=congrArg (·.2.1) hz;have hz2:=congrArg (·.2.2) hz;have HI:=Hi hi;have HZ0:=Hi hz0;have HZ1:=Hi hz1;have HZ2:=Hi hz2;clear hi hz hz0 hz1 hz2;obtain ⟨wn,hwn,hbn,hXn,hsn⟩:=a_box w (nB 7 a s n A la cA B ps.length cB);have hpm:ps.length≤9223372036854775807:=hps;have hb0:=hb.trans (hbn.mono hb.size);have hC0:=in2_start hc hbn;have HIN:=Hi (inputs w0 wn (In2 N w wn) lo g c m 7 a s n A la cA B cB ps hb0 hB hps hpl (in2_low (w:=w) hN (Nat.le_trans hb.size hbn.size)) hC0 hm);have HC0:=Hi hC0;have HU0:=Hi (Upd.of_below hbn N);have HX0:=Hi hXn;have HW:=Hi hwn;have HB0:=Hi hb0;have HB:=Hi hB;have HM:=Hi hm;have HN:=Hi (in2_low (w:=w) hN (Nat.le_trans hb.size hbn.size));have HSN:=Hi hsn;have HSE:=Hi (show c.pu.length≤m from hc.bd.2.1);obtain ⟨res,hres⟩:∃ res,bndR (inB a ps c) (fun d=>.ok { d with pu:=d.pu ++ ps })=res:=⟨_,rfl⟩;rw [hres];have HRES:=Hi hres;have HEX:=Hi (fun d (h:inB a ps c = .ok d)=>(inB_ext h).2.2.1);generalize inB a ps c=r1 at HIN HRES HEX;obtain ⟨⟨e0,e1,e2,e3,e4,e5⟩,z0,z1,z2,z3,z4,z5⟩:=Blk.c6 hXn;clear hc hbn hXn hwn hb hB hpl hm hN hps hres hsn hb0 hC0;go_enter Tryz.func89,Tryz.ntmps89;go_wp2_with fail
 rw [HW.out];refine (show Calls Tryz.prog 112 #[.pointer (some ⟨g,0,none⟩),nzA 7 a s n A la cA B ps.length cB] wn _ from HIN.out).mono ?_;intro e w1 h1;clear e0 e1 e2 e3 e4 e5 z0 z1 z2 z3 z4 z5;cases r1 with
 | bad a1=>
  obtain ⟨rfl,hu1⟩:=h1;have HEND:=Hi (show StatP N lo w g res (m+ps.length) (panW a1) w1 from by rw [←HRES.out];exact ⟨rfl,in2_upd HU0.out hu1 (by have:=HSN.out;omega)⟩);clear hu1;go_wp2_with fail
  exact ⟨rfl,HEND.out⟩
 | ok d=>
 obtain ⟨rfl,hc1,hu1⟩:=h1;have HQ2:=Hi (show Rs.ok { d with pu:=d.pu ++ ps }=res from HRES.out);have HC1:=Hi (in2_new hc1 (Nat.le_refl _));have HU1:=Hi (in2_upd HU0.out hu1 (by have:=HSN.out;omega));have HB1:=Hi (below_low HB0.out hu1 HN.out);have HX1:=Hi (HX0.out.upd hu1 fun h=>by
  rcases h with h | h
  ·exact Nat.lt_irrefl _ h.2
  ·have:=HSN.out;omega)
 have hs1:=hu1.size;have hdr:Below w1.heap.size w1 w1.drew:=Below.drew (Below.refl _ _);obtain ⟨wz,hwd⟩:∃ v,w1.drew=v:=⟨_,rfl⟩;rw [hwd] at hdr;have HXz:=Hi (HX1.out.below hdr HX1.out.lt);have HUz:=Hi (upd_then HU1.out (Upd.of_below hdr fun _=>False) fun _ h=>h.elim);have HBz:=Hi (HB1.out.trans (hdr.mono HB1.out.size));obtain ⟨⟨vs,vp,vo,ve,kb,ob,hv⟩,hbd,henl⟩:=HC1.out.below hdr;have HVz:=Hi hv;have HBD:=Hi hbd;have HENL:=Hi henl;have hlse:d.pu.length≤m:=by rw [HEX.out d rfl];exact HSE.out
 have HNV:=Hi (show ¬ (vp.ownBlock=some w.heap.size∨w.heap.size=g) from fun h=>by
  rcases h with h | h
  ·exact in2_ne (hv.inN _ (by simp) _ h) HSN.out rfl
  ·exact in2_ne (hv.inN _ (by simp) g rfl) HSN.out h)
 have HGV:=Hi (show vp.ownBlock≠some g by have h:=hv.ne;exact h.1.2.2.2.1);have hZ0:Upd (fun b=>vp.ownBlock=some b∨b=g) wz wz:=Upd.refl _ _;have hS0:Upd (fun b=>vp.ownBlock=some b) wz wz:=Upd.refl _ _;have HLz:=Hi (HB.out.below HBz.out);have hlo4:lo≤wz.heap.size:=hv.lo_.2.2.2;have hlim:m+ps.length≤1099511627776:=HM.out;clear hc1 hu1 hdr hv hbd henl HEX HRES;go_wp2_with fail
 refine HT.wp_region (Z:=fun w'=>Upd (fun b=>vp.ownBlock=some b∨b=g) wz w') (S:=fun w'=>Upd (fun b=>vp.ownBlock=some b) wz w') (st:=[12]) (by kernel_rfl) ?_;rw [hwd];clear hwd;refine HT.tm 0 rfl hZ0 (fun _=>hS0) ?_;refine HT.tm 1 rfl hZ0 (fun _=>hS0) ?_;refine HT.tm 2 rfl hZ0 (fun _=>hS0) ?_;refine HT.tm 3 rfl hZ0 (fun _=>hS0) ?_;refine HT.tm 4 rfl hZ0 (fun _=>hS0) ?_;refine HT.ts 5 rfl (by intro v hSw;have hG:=HVz.out.blk.upd hSw HGV.out;have D_:=Blk.c6 hG;clear hSw hG;go_simp;try with_reducible rfl) hZ0 hS0 ?_;refine HT.tk 6 rfl (by intro v hSw;have hA:=HXz.out.upd hSw HNV.out;have E_:=Blk.c6 hA;clear hSw hA;go_simp;try with_reducible rfl) hZ0 (fun _=>hS0) ?_;refine HT.tk 7 rfl (by intro v hSw;have hA:=HXz.out.upd hSw HNV.out;have E_:=Blk.c6 hA;clear hSw hA;go_simp;try with_reducible rfl) hZ0 (fun _=>hS0) ?_;refine HT.one (i:=8) (by kernel_rfl) rfl (fun K hK=>?_);refine step_any rfl _ _ 60 rfl lo 9 i0 (.string ⟨#[]⟩) 1 16 Tryz.underlying60 HI.out HZ0.out HZ1.out HZ2.out rfl (by decide) vp d.pu.length _ rfl HVz.out.op B ps.length cB (ps.map strV) rfl (by simp) HLz.out (by intro u hu;obtain ⟨p,_,rfl⟩:=List.mem_map.1 hu;rfl) (by unfold maxLen;omega) (by omega) hlo4 ?_;intro v' w8 hown hgrow hat;obtain ⟨vA,vc,rfl⟩:=own_sl hown;have hs8:Upd (fun b=>vp.ownBlock=some b) wz w8:=hS0.grown hgrow fun b hb _=>hb
 have hz8:Upd (fun b=>vp.ownBlock=some b∨b=g) wz w8:=hs8.mono fun b hb=>.inl hb
 (try dsimp only);refine hK.out _ _ hz8 hs8 ?_;clear hK K;(try simp only [HT.pS]);refine HT.tm 9 rfl hz8 (fun _=>hs8) ?_;refine HT.tm 10 rfl hz8 (fun _=>hs8) ?_;refine HT.tm 11 rfl hz8 (fun _=>hs8) ?_;have hG8:=HVz.out.blk.upd hs8 HGV.out;obtain ⟨⟨c0,c1,c2,c3,c4,c5⟩,y0,y1,y2,y3,y4,y5⟩:=Blk.c6 hG8;have hg8:=hG8.lt;refine HT.oneS (i:=12) (by kernel_rfl) (by kernel_rfl) rfl (fun K hK=>?_);go_simp;refine hK.out _ _ (hz8.setCell (p:=⟨g,1,none⟩) (fun _=>.inr rfl) _) ?_;clear hK K;(try simp only [HT.pS]);refine HT.done (by kernel_rfl) ?_;have hown':w8.ownsRow lo 9 1 (.slice vA (d.pu.length+ps.length) vc) (d.pu ++ ps).length ((d.pu ++ ps).map strV):=by
  rw [List.length_append,List.map_append];exact hown
 have hfin:=HVz.out.vp' (pu':=d.pu ++ ps) hs8 hown' (hat.imp id fun h=>⟨_,Nat.le_refl _,h⟩);have HEND:=Hi (show StatP N lo w g res (m+ps.length) (.returned (.tuple #[])) (w8.setCell ⟨g,1,none⟩ (.slice vA (d.pu.length+ps.length) vc)) from by
  rw [←HQ2.out];have hb:=HBD.out;refine ⟨rfl,⟨⟨vs,_,vo,ve,kb,ob,hfin.mono fun b hb _ _=>?_⟩,⟨hb.1,by show (d.pu ++ ps).length≤_;rw [List.length_append];omega,hb.2.2.1,hb.2.2.2⟩,HENL.out⟩,?_⟩
  ·rcases hb with (h | h) | h
   ·exact .inl h.1
   ·exact .inr (by have:=HSN.out;omega)
   ·exact .inr (by have:=HUz.out.size;omega)
  ·exact in2_upd HUz.out ((hs8.mono (Y:=In2 N w wn) fun b hb=>HVz.out.inN _ (by simp) b hb).setCell (p:=⟨g,1,none⟩) (fun _=>HVz.out.inN _ (by simp) g rfl) _) (by have:=HSN.out;omega))
 clear hown hown' hat hfin hgrow hs8 hz8 hG8 c0 c1 c2 c3 c4 c5 y0 y1 y2 y3 y4 y5 hg8 hZ0 hS0;go_wp2_with fail
 first | go_end0 | skip
 all_goals first | exact HEND.out | exact bodyPost_ret (results_none rfl _ _ _) rfl HEND.out
theorem st12(w:World)(N:Nat→Prop)(lo g:Nat)(c:St)(m:Nat)(k a:Int)(s:Bs)(n:Nat)(A:Option Addr)(la cA:Nat)(B:Option Addr)(lb cB:Nat)(r:Rs)(m':Nat)(hk:k = 12)(hc:CK N lo w g c m)
  (hC:∀ wn,Below w.heap.size w wn→Calls Tryz.prog 113 #[.pointer (some ⟨g,0,none⟩),nzA k a s n A la cA B lb cB] wn (StatP (In2 N w wn) lo wn g r m')) :
  Calls Tryz.prog 89 #[.pointer (some ⟨g,0,none⟩),nzA k a s n A la cA B lb cB] w (StatP N lo w g r m'):=by
 obtain ⟨wn,hwn,hbn,hXn,hsn⟩:=a_box w (nB k a s n A la cA B lb cB);have HIN:=Hi (hC wn hbn);have HU0:=Hi (Upd.of_below hbn N);have HW:=Hi hwn;have HSN:=Hi hsn;obtain ⟨⟨e0,e1,e2,e3,e4,e5⟩,z0,z1,z2,z3,z4,z5⟩:=Blk.c6 hXn;clear hc hbn hXn hwn hsn hC;subst hk;go_enter Tryz.func89,Tryz.ntmps89;go_wp2_with fail
 rw [HW.out];refine (show Calls Tryz.prog 113 #[.pointer (some ⟨g,0,none⟩),nzA 12 a s n A la cA B lb cB] wn _ from HIN.out).mono ?_;intro e w1 h1;clear e0 e1 e2 e3 e4 e5 z0 z1 z2 z3 z4 z5;cases r with
 | bad a1=>
  obtain ⟨rfl,hu1⟩:=h1;have HEND:=Hi (show StatP N lo w g (.bad a1) m' (panW a1) w1 from ⟨rfl,in2_upd HU0.out hu1 (by have:=HSN.out;omega)⟩);clear hu1;go_wp2_with fail
  exact ⟨rfl,HEND.out⟩
 | ok d=>
  obtain ⟨rfl,hc1,hu1⟩:=h1;have HEND:=Hi (show StatP N lo w g (.ok d) m' (.returned (.tuple #[])) w1 from ⟨rfl,in2_out (in2_new hc1 (Nat.le_refl _)) (by have:=HSN.out;omega),in2_upd HU0.out hu1 (by have:=HSN.out;omega)⟩);clear hc1 hu1;go_wp2_with fail
  first | go_end0 | skip
  all_goals first | exact HEND.out | exact bodyPost_ret (results_none rfl _ _ _) rfl HEND.out
theorem st10(w:World)(N:Nat→Prop)(lo g:Nat)(c:St)(m:Nat)(k a:Int)(s:Bs)(n:Nat)(A:Option Addr)(la cA:Nat)(B:Option Addr)(lb cB:Nat)(r:Rs)(m':Nat)(hk:k = 10)(hc:CK N lo w g c m)
  (hC:∀ wn,Below w.heap.size w wn→Calls Tryz.prog 114 #[.pointer (some ⟨g,0,none⟩),nzA k a s n A la cA B lb cB] wn (StatP (In2 N w wn) lo wn g r m')) :
  Calls Tryz.prog 89 #[.pointer (some ⟨g,0,none⟩),nzA k a s n A la cA B lb cB] w (StatP N lo w g r m'):=by
 obtain ⟨wn,hwn,hbn,hXn,hsn⟩:=a_box w (nB k a s n A la cA B lb cB);have HIN:=Hi (hC wn hbn);have HU0:=Hi (Upd.of_below hbn N);have HW:=Hi hwn;have HSN:=Hi hsn;obtain ⟨⟨e0,e1,e2,e3,e4,e5⟩,z0,z1,z2,z3,z4,z5⟩:=Blk.c6 hXn;clear hc hbn hXn hwn hsn hC;subst hk;go_enter Tryz.func89,Tryz.ntmps89;go_wp2_with fail
 rw [HW.out];refine (show Calls Tryz.prog 114 #[.pointer (some ⟨g,0,none⟩),nzA 10 a s n A la cA B lb cB] wn _ from HIN.out).mono ?_;intro e w1 h1;clear e0 e1 e2 e3 e4 e5 z0 z1 z2 z3 z4 z5;cases r with
 | bad a1=>
  obtain ⟨rfl,hu1⟩:=h1;have HEND:=Hi (show StatP N lo w g (.bad a1) m' (panW a1) w1 from ⟨rfl,in2_upd HU0.out hu1 (by have:=HSN.out;omega)⟩);clear hu1;go_wp2_with fail
  exact ⟨rfl,HEND.out⟩
 | ok d=>
  obtain ⟨rfl,hc1,hu1⟩:=h1;have HEND:=Hi (show StatP N lo w g (.ok d) m' (.returned (.tuple #[])) w1 from ⟨rfl,in2_out (in2_new hc1 (Nat.le_refl _)) (by have:=HSN.out;omega),in2_upd HU0.out hu1 (by have:=HSN.out;omega)⟩);clear hc1 hu1;go_wp2_with fail
  first | go_end0 | skip
  all_goals first | exact HEND.out | exact bodyPost_ret (results_none rfl _ _ _) rfl HEND.out
theorem st8(w:World)(N:Nat→Prop)(lo g:Nat)(c:St)(m:Nat)(k a:Int)(s:Bs)(n:Nat)(A:Option Addr)(la cA:Nat)(B:Option Addr)(lb cB:Nat)(r:Rs)(m':Nat)(hk:k = 8)(hc:CK N lo w g c m)
  (hC:∀ wn,Below w.heap.size w wn→Calls Tryz.prog 115 #[.pointer (some ⟨g,0,none⟩),nzA k a s n A la cA B lb cB] wn (StatP (In2 N w wn) lo wn g r m')) :
  Calls Tryz.prog 89 #[.pointer (some ⟨g,0,none⟩),nzA k a s n A la cA B lb cB] w (StatP N lo w g r m'):=by
 obtain ⟨wn,hwn,hbn,hXn,hsn⟩:=a_box w (nB k a s n A la cA B lb cB);have HIN:=Hi (hC wn hbn);have HU0:=Hi (Upd.of_below hbn N);have HW:=Hi hwn;have HSN:=Hi hsn;obtain ⟨⟨e0,e1,e2,e3,e4,e5⟩,z0,z1,z2,z3,z4,z5⟩:=Blk.c6 hXn;clear hc hbn hXn hwn hsn hC;subst hk;go_enter Tryz.func89,Tryz.ntmps89;go_wp2_with fail
 rw [HW.out];refine (show Calls Tryz.prog 115 #[.pointer (some ⟨g,0,none⟩),nzA 8 a s n A la cA B lb cB] wn _ from HIN.out).mono ?_;intro e w1 h1;clear e0 e1 e2 e3 e4 e5 z0 z1 z2 z3 z4 z5;cases r with
 | bad a1=>
  obtain ⟨rfl,hu1⟩:=h1;have HEND:=Hi (show StatP N lo w g (.bad a1) m' (panW a1) w1 from ⟨rfl,in2_upd HU0.out hu1 (by have:=HSN.out;omega)⟩);clear hu1;go_wp2_with fail
  exact ⟨rfl,HEND.out⟩
 | ok d=>
  obtain ⟨rfl,hc1,hu1⟩:=h1;have HEND:=Hi (show StatP N lo w g (.ok d) m' (.returned (.tuple #[])) w1 from ⟨rfl,in2_out (in2_new hc1 (Nat.le_refl _)) (by have:=HSN.out;omega),in2_upd HU0.out hu1 (by have:=HSN.out;omega)⟩);clear hc1 hu1;go_wp2_with fail
  first | go_end0 | skip
  all_goals first | exact HEND.out | exact bodyPost_ret (results_none rfl _ _ _) rfl HEND.out
theorem st9(w:World)(N:Nat→Prop)(lo g:Nat)(c:St)(m:Nat)(k a:Int)(s:Bs)(n:Nat)(A:Option Addr)(la cA:Nat)(B:Option Addr)(lb cB:Nat)(r:Rs)(m':Nat)(hk:k = 9)(hc:CK N lo w g c m)
  (hC:∀ wn,Below w.heap.size w wn→Calls Tryz.prog 115 #[.pointer (some ⟨g,0,none⟩),nzA k a s n A la cA B lb cB] wn (StatP (In2 N w wn) lo wn g r m')) :
  Calls Tryz.prog 89 #[.pointer (some ⟨g,0,none⟩),nzA k a s n A la cA B lb cB] w (StatP N lo w g r m'):=by
 obtain ⟨wn,hwn,hbn,hXn,hsn⟩:=a_box w (nB k a s n A la cA B lb cB);have HIN:=Hi (hC wn hbn);have HU0:=Hi (Upd.of_below hbn N);have HW:=Hi hwn;have HSN:=Hi hsn;obtain ⟨⟨e0,e1,e2,e3,e4,e5⟩,z0,z1,z2,z3,z4,z5⟩:=Blk.c6 hXn;clear hc hbn hXn hwn hsn hC;subst hk;go_enter Tryz.func89,Tryz.ntmps89;go_wp2_with fail
 rw [HW.out];refine (show Calls Tryz.prog 115 #[.pointer (some ⟨g,0,none⟩),nzA 9 a s n A la cA B lb cB] wn _ from HIN.out).mono ?_;intro e w1 h1;clear e0 e1 e2 e3 e4 e5 z0 z1 z2 z3 z4 z5;cases r with
 | bad a1=>
  obtain ⟨rfl,hu1⟩:=h1;have HEND:=Hi (show StatP N lo w g (.bad a1) m' (panW a1) w1 from ⟨rfl,in2_upd HU0.out hu1 (by have:=HSN.out;omega)⟩);clear hu1;go_wp2_with fail
  exact ⟨rfl,HEND.out⟩
 | ok d=>
  obtain ⟨rfl,hc1,hu1⟩:=h1;have HEND:=Hi (show StatP N lo w g (.ok d) m' (.returned (.tuple #[])) w1 from ⟨rfl,in2_out (in2_new hc1 (Nat.le_refl _)) (by have:=HSN.out;omega),in2_upd HU0.out hu1 (by have:=HSN.out;omega)⟩);clear hc1 hu1;go_wp2_with fail
  first | go_end0 | skip
  all_goals first | exact HEND.out | exact bodyPost_ret (results_none rfl _ _ _) rfl HEND.out
theorem st11(w:World)(N:Nat→Prop)(lo g:Nat)(c:St)(m:Nat)(k a:Int)(s:Bs)(n:Nat)(A:Option Addr)(la cA:Nat)(B:Option Addr)(lb cB:Nat)(r:Rs)(m':Nat)(hk:k = 11)(hc:CK N lo w g c m)
  (hC:∀ wn,Below w.heap.size w wn→Calls Tryz.prog 116 #[.pointer (some ⟨g,0,none⟩),nzA k a s n A la cA B lb cB] wn (StatP (In2 N w wn) lo wn g r m')) :
  Calls Tryz.prog 89 #[.pointer (some ⟨g,0,none⟩),nzA k a s n A la cA B lb cB] w (StatP N lo w g r m'):=by
 obtain ⟨wn,hwn,hbn,hXn,hsn⟩:=a_box w (nB k a s n A la cA B lb cB);have HIN:=Hi (hC wn hbn);have HU0:=Hi (Upd.of_below hbn N);have HW:=Hi hwn;have HSN:=Hi hsn;obtain ⟨⟨e0,e1,e2,e3,e4,e5⟩,z0,z1,z2,z3,z4,z5⟩:=Blk.c6 hXn;clear hc hbn hXn hwn hsn hC;subst hk;go_enter Tryz.func89,Tryz.ntmps89;go_wp2_with fail
 rw [HW.out];refine (show Calls Tryz.prog 116 #[.pointer (some ⟨g,0,none⟩),nzA 11 a s n A la cA B lb cB] wn _ from HIN.out).mono ?_;intro e w1 h1;clear e0 e1 e2 e3 e4 e5 z0 z1 z2 z3 z4 z5;cases r with
 | bad a1=>
  obtain ⟨rfl,hu1⟩:=h1;have HEND:=Hi (show StatP N lo w g (.bad a1) m' (panW a1) w1 from ⟨rfl,in2_upd HU0.out hu1 (by have:=HSN.out;omega)⟩);clear hu1;go_wp2_with fail
  exact ⟨rfl,HEND.out⟩
 | ok d=>
  obtain ⟨rfl,hc1,hu1⟩:=h1;have HEND:=Hi (show StatP N lo w g (.ok d) m' (.returned (.tuple #[])) w1 from ⟨rfl,in2_out (in2_new hc1 (Nat.le_refl _)) (by have:=HSN.out;omega),in2_upd HU0.out hu1 (by have:=HSN.out;omega)⟩);clear hc1 hu1;go_wp2_with fail
  first | go_end0 | skip
  all_goals first | exact HEND.out | exact bodyPost_ret (results_none rfl _ _ _) rfl HEND.out
theorem stX(w:World)(N:Nat→Prop)(lo g:Nat)(c:St)(m:Nat)(k a:Int)(s:Bs)(n:Nat)(A:Option Addr)(la cA:Nat)(B:Option Addr)(lb cB:Nat)(hk:k≠6∧k≠7∧k≠12∧k≠10∧k≠8∧k≠9∧k≠11)(hc:CK N lo w g c m) :
  Calls Tryz.prog 89 #[.pointer (some ⟨g,0,none⟩),nzA k a s n A la cA B lb cB] w (StatP N lo w g (.ok c) m):=by
 obtain ⟨wn,hwn,hbn,hXn,hsn⟩:=a_box w (nB k a s n A la cA B lb cB);have HC0:=Hi (in2_start hc hbn);have HU0:=Hi (Upd.of_below hbn N);have HW:=Hi hwn;have HSN:=Hi hsn;obtain ⟨⟨e0,e1,e2,e3,e4,e5⟩,z0,z1,z2,z3,z4,z5⟩:=Blk.c6 hXn;obtain ⟨k6,k7,k12,k10,k8,k9,k11⟩:=hk;have j6:(k==6)=false:=by simp;omega
 have j7:(k==7)=false:=by simp;omega
 have j12:(k==12)=false:=by simp;omega
 have j10:(k==10)=false:=by simp;omega
 have j8:(k==8)=false:=by simp;omega
 have j9:(k==9)=false:=by simp;omega
 have j11:(k==11)=false:=by simp;omega
 have HEND:=Hi (show StatP N lo w g (.ok c) m (.returned (.tuple #[])) wn from ⟨rfl,in2_out HC0.out (by have:=HSN.out;omega),HU0.out⟩);clear hc hbn hXn hwn hsn k6 k7 k12 k10 k8 k9 k11;go_enter Tryz.func89,Tryz.ntmps89;go_wp2_with fail
 rw [HW.out]
 first | go_end0 | skip
 all_goals first | exact HEND.out | exact bodyPost_ret (results_none rfl _ _ _) rfl HEND.out
theorem StatP.more{N:Nat→Prop}{lo:Nat}{w:World}{g:Nat}{r:Rs}{m m':Nat}{e:Ending}{w':World}(h:StatP N lo w g r m e w')(hm:m≤m'):StatP N lo w g r m' e w':=by
 cases r with
 | bad a=>exact h
 | ok c=>exact ⟨h.1,h.2.1.more hm,h.2.2⟩
theorem statement:∀ M,StC M
 | 0=>fun z h=>absurd h (Nat.not_lt_zero _)
 | M+1=>by
  intro z hM w0 w N lo g c m k a s n A la cA B lb cB hb hT hlz hN hc hso hm;obtain ⟨k1,a1,s1,n1,ps,l⟩:=z;have hcap:=tIz_cap hT;obtain ⟨rfl,rfl,rfl,rfl,rfl,rfl,hl,hp,hB,_⟩:=tIz_parts hT;have hT2:=hT;unfold TIc at hT2;obtain ⟨A1,cA1,B1,cB1,h1,_,_,_,css,hL,hS,_⟩:=hT2;unfold nzC at h1;simp only [List.cons.injEq,Value.slice.injEq,true_and,and_true] at h1;obtain ⟨⟨rfl,rfl⟩,rfl,rfl⟩:=h1;obtain ⟨hs,hpl,hls⟩:=lenz_parts hlz;have hsz:∀ (i:Nat) (x:Tz),l[i]?=some x→SizeOf.sizeOf x < M:=fun i x h=>by
   have:=size_memz (k:=k) (a:=a) (n:=n) (s:=s) (ps:=ps) h;omega
  have hnb:nbz (.mk k a s n ps l)=ps.length+1+nbzs l:=rfl;have hlow:∀ wn,Below w.heap.size w wn→∀ b,In2 N w wn b→w0.heap.size≤b:=fun wn hbn=>in2_low hN (Nat.le_trans hb.size hbn.size)
  unfold stB;by_cases h6:k = 6
  ·subst h6;rw [if_pos rfl];exact (st6 w0 w N lo g c m a s n A l.length cA B cB ps hb hB hp hpl hN hc (by omega)).mono fun e w' h=>h.more (by omega)
  rw [if_neg h6];by_cases h7:k = 7
  ·subst h7;rw [if_pos rfl];exact (st7 w0 w N lo g c m a s n A l.length cA B cB ps hb hB hp hpl hN hc (by omega)).mono fun e w' h=>h.more (by omega)
  rw [if_neg h7];by_cases h12:k = 12
  ·rw [if_pos h12];exact st12 w N lo g c m k a s n A l.length cA B ps.length cB _ _ h12 hc fun wn hbn=>(function w0 wn (In2 N w wn) lo g c m k a s n A cA B cB ps l css (hb.trans (hbn.mono hb.size)) hL (tsIz_weak hS) hcap hB hp hpl hs hls (hlow wn hbn) (in2_start hc hbn) (by omega)).mono fun e w' h=>h.more (by omega)
  rw [if_neg h12];by_cases h10:k = 10
  ·rw [if_pos h10];exact st10 w N lo g c m k a s n A l.length cA B ps.length cB _ _ h10 hc fun wn hbn=>(let_ w0 wn (In2 N w wn) lo g c m k a s n A cA B ps.length cB l css (hb.trans (hbn.mono hb.size)) hL (tsIz_weak hS) hcap hs hls (hlow wn hbn) (in2_start hc hbn) (by omega)).mono fun e w' h=>h.more (by omega)
  rw [if_neg h10];by_cases h8:k = 8
  ·rw [if_pos (.inl h8)];exact st8 w N lo g c m k a s n A l.length cA B ps.length cB _ _ h8 hc fun wn hbn=>(output w0 wn (In2 N w wn) lo g c m k a s n A cA B ps.length cB l css (hb.trans (hbn.mono hb.size)) hL (tsIz_weak hS) hcap hs hls (hlow wn hbn) (in2_start hc hbn) (by omega)).mono fun e w' h=>h.more (by omega)
  by_cases h9:k = 9
  ·rw [if_pos (.inr h9)];exact st9 w N lo g c m k a s n A l.length cA B ps.length cB _ _ h9 hc fun wn hbn=>(output w0 wn (In2 N w wn) lo g c m k a s n A cA B ps.length cB l css (hb.trans (hbn.mono hb.size)) hL (tsIz_weak hS) hcap hs hls (hlow wn hbn) (in2_start hc hbn) (by omega)).mono fun e w' h=>h.more (by omega)
  rw [if_neg (by omega)];by_cases h11:k = 11
  ·rw [if_pos h11];exact st11 w N lo g c m k a s n A l.length cA B ps.length cB _ _ h11 hc fun wn hbn=>(loop (statement M) w0 wn (In2 N w wn) lo g c m k a s n A cA B ps.length cB l css (hb.trans (hbn.mono hb.size)) hL hS hcap hsz hs hls (hlow wn hbn) (in2_start hc hbn) (by omega)).mono fun e w' h=>h.more (by omega)
  rw [if_neg h11];exact (stX w N lo g c m k a s n A l.length cA B ps.length cB ⟨h6,h7,h12,h10,h8,h9,h11⟩ hc).mono fun e w' h=>h.more (by omega)
section
theorem catch_idle(p q:Addr)(w:World) :
  CallsD Tryz.prog 73 #[.pointer (some p),.pointer (some q)] .returning w fun e u' w'=>e = .returned (.tuple #[])∧u' = .returning∧w'=w:=by
 have hnil:∀ w:World,(binOp BinOp.neq 20 .nilIface .nilIface).run Tryz.prog w = .ok (.bool false) w:=fun _=>by kernel_rfl
 refine callsD_of_wpS Tryz.func73 rfl fun c₀ cs hu=>?_
 apply wpS_seq;apply wpS_region;simp [wpOpsS,go_sem,recoverD,hu,Tryz.ntmps73,Exit.thenS];refine wpS_of_wp ?_;go_wp2_with fail
 cases c₀
 simp_all [bodyPostS,results,Tryz.results73]
theorem fWr0(a:Int)(w:World):(Instr.field 139 (.agg #[.int .i64 a]) 0).run Tryz.prog w = .ok (.int .i64 a) w:=by kernel_rfl
attribute [local go_sem] fWr0
theorem catch_wrong(g:Nat)(a:Int)(w:World){a0 q0:Value}(ha:Blk w g 3 #[a0])(he:Blk w (g+1) 47 #[q0]) :
  CallsD Tryz.prog 73 #[.pointer (some ⟨g,0,none⟩),.pointer (some ⟨g+1,0,none⟩)] (.panicking [{ v:=.iface 139 (.agg #[.int .i64 a]),recovered:=false }]) w fun e u' w'=>e = .returned (.tuple #[]) ∧
   u' = .panicking [{ v:=.iface 139 (.agg #[.int .i64 a]),recovered:=true }]∧Blk w' g 3 #[.int .i64 a]∧Blk w' (g+1) 47 #[.int .i64 120]∧Upd (fun b=>b=g∨b=g+1) w w':=by
 have hne:∀ w:World,(binOp BinOp.neq 20 (.iface 139 (.agg #[.int .i64 a])) .nilIface).run Tryz.prog w = .ok (.bool true) w:=fun _=>by kernel_rfl
 have hta:∀ w:World,(Instr.typeAssert (.iface 139 (.agg #[.int .i64 a])) 20 139 false).run Tryz.prog w = .ok (.agg #[.int .i64 a]) w:=fun _=>by kernel_rfl
 refine callsD_of_wpS Tryz.func73 rfl fun c₀ cs hu=>?_
 apply wpS_seq;apply wpS_region;simp [wpOpsS,go_sem,recoverD,hu,Tryz.ntmps73,Exit.thenS];refine wpS_of_wp ?_;simp only [Array.replicate_succ,Array.replicate_zero,List.push_toArray,List.setIfInBounds_toArray,List.set_cons_succ,List.set_cons_zero,List.append_toArray,List.cons_append,List.nil_append];have c1:w.cell? ⟨g,0,none⟩=some a0:=ha.cell 0;have c2:w.cell? ⟨g+1,0,none⟩=some q0:=he.cell 0;have f1:=ha.frozen 0;have f2:=he.frozen 0;have hg01:g≠g+1:=by omega
 have HA:=Hi ((ha.set 0 (.int .i64 a)).far (p:=⟨g+1,0,none⟩) hg01 (.int .i64 120));have HE:=Hi ((he.far (p:=⟨g,0,none⟩) (Ne.symm hg01) (.int .i64 a)).set 0 (.int .i64 120));have HU:=Hi (((Upd.refl (fun b=>b=g∨b=g+1) w).setCell (p:=⟨g,0,none⟩) (fun _=>.inl rfl) (.int .i64 a)).setCell (p:=⟨g+1,0,none⟩) (fun _=>.inr rfl) (.int .i64 120));clear ha he;go_wp2_with fail
 exact ⟨rfl,_,rfl,_,results_none rfl _ _ _,rfl,rfl,HA.out,HE.out,HU.out⟩
theorem isAgI(w:World):(isAgg 3).run Tryz.prog w = .ok false w:=Go.Proofs.run_isAgg_plain Tryz.underlying3 rfl w
theorem isAgE(w:World):(isAgg 47).run Tryz.prog w = .ok false w:=Go.Proofs.run_isAgg_plain Tryz.underlying47 rfl w
theorem boxes3(w:World)(cs:Array Value):∃ w0,((w.alloc (.cells cs 62)).alloc (.cells #[.int .i64 0] 3)).alloc (.cells #[.int .i64 0] 47)=w0∧Below w.heap.size w w0∧w0.heap.size=w.heap.size+3 ∧
  Blk w0 w.heap.size 62 cs∧Blk w0 (w.heap.size+1) 3 #[.int .i64 0]∧Blk w0 (w.heap.size+2) 47 #[.int .i64 0]:=by
 refine ⟨_,rfl,(((Below.refl _ _).alloc (Nat.le_refl _) _).alloc (by simp) _).alloc (by simp;omega) _,by simp,((Blk.new _ _ _).alloc _).alloc _,?_,?_⟩
 ·have h:=(Blk.new (w.alloc (.cells cs 62)) 3 #[.int .i64 0]).alloc (.cells #[.int .i64 0] 47);have e:(w.alloc (.cells cs 62)).heap.size=w.heap.size+1:=by simp
  rw [e] at h;exact h
 ·have h:=Blk.new ((w.alloc (.cells cs 62)).alloc (.cells #[.int .i64 0] 3)) 47 #[.int .i64 0];have e:((w.alloc (.cells cs 62)).alloc (.cells #[.int .i64 0] 3)).heap.size=w.heap.size+2:=by simp
  rw [e] at h;exact h
def PrgP(N:Nat→Prop)(lo:Nat)(w:World)(g:Nat)(r:Rs)(m:Nat)(e:Ending)(w':World):Prop:=
 match r with | .ok c=>e = .returned (.tuple #[.int .i64 0,.int .i64 0])∧CK (New N w) lo w' g c m∧Upd N w w' | .bad a=>e = .returned (.tuple #[.int .i64 a,.int .i64 120])∧Upd N w w'
theorem res2{g:Nat}{a b:Value}{W:World}(hA:Blk W (g+1) 3 #[a])(hE:Blk W (g+2) 47 #[b])(tmps:Array Value)(h4:tmps.getD 4 undef = .pointer (some ⟨g+1,0,none⟩))(h5:tmps.getD 5 undef = .pointer (some ⟨g+2,0,none⟩)) :
  (results Tryz.f57 tmps).run Tryz.prog W = .ok (.tuple #[a,b]) W:=
 results_cc rfl tmps W (g+1) (g+2) a b h4 h5 (loadVar_plain (isAgI W) (hA.cell 0)) (loadVar_plain (isAgE W) (hE.cell 0))
theorem program(w0 w:World)(N:Nat→Prop)(lo g:Nat)(c:St)(m:Nat)(k a:Int)(s:Bs)(n:Nat)(A:Option Addr)(cA:Nat)(B:Option Addr)(lb cB:Nat)(l:List Tz)(css:List (List Value))(hb:Below w0.heap.size w0 w)(hL:Lies w0 A css.flatten)(hS:TsIc True w0 l css)(hl:l.length≤maxLen)
  (hlz:lenzs l) (hN:∀ b,N b→w0.heap.size≤b) (hc:CK N lo w g c m) (hm:m+nbzs l≤1099511627776) :
  Calls Tryz.prog 57 #[.pointer (some ⟨g,0,none⟩),nzA k a s n A l.length cA B lb cB] w (PrgP N lo w g (stBs 0 l c) (m+nbzs l)):=by
 obtain ⟨wn,hwn,hbn,hsn,hXn,hAn,hEn⟩:=boxes3 w (nB k a s n A l.length cA B lb cB);have hb0:=hb.trans (hbn.mono hb.size);have hC0:=in2_start hc hbn;have HST:=Hi (statements (statement (SizeOf.sizeOf l+1)) w0 wn (In2 N w wn) lo g c m A cA l css hb0 hL hS hl hlz (fun i x h=>Nat.lt_succ_of_lt (List.sizeOf_lt_of_mem (List.mem_of_getElem? h))) (in2_low (w:=w) hN (Nat.le_trans hb.size hbn.size)) hC0 hm);have HU0:=Hi (Upd.of_below hbn N);have HA:=Hi hAn;have HE:=Hi hEn;have HW:=Hi hwn;have HSN:=Hi hsn;obtain ⟨⟨e0,e1,e2,e3,e4,e5⟩,z0,z1,z2,z3,z4,z5⟩:=Blk.c6 hXn;have hmf:∀ (fn:Fn) (first cap:Array Value) (w:World),(Instr.makeFunc fn first cap).run Tryz.prog w = .ok (.func fn first cap) w:=fun _ _ _ _=>rfl
 obtain ⟨res,hres⟩:∃ res,stBs 0 l c=res:=⟨_,rfl⟩;rw [hres] at HST ⊢;have HNI:=Hi (show ∀ b,w.heap.size≤b→b < w.heap.size+3→¬ In2 N w wn b from fun b h1 h2 h=>by
  rcases h with h | h
  ·have:=h.2;omega
  ·omega)
 obtain ⟨g0,hg0⟩:∃ g0,w.heap.size=g0:=⟨_,rfl⟩;have HG0:=Hi hg0;rw [hg0] at HA HE HNI e0 e1 e2 e3 e4 e5 z0 z1 z2 z3 z4 z5;clear hres hbn hXn hAn hEn hwn hb hL hS hlz hm hN hc hsn hb0 hC0
 go_enter_defers Tryz.func57,Tryz.ntmps57
 go_wp2_with fail
 simp only [Nat.add_assoc,Nat.reduceAdd];rw [HW.out];refine (show Calls Tryz.prog 74 #[.pointer (some ⟨g,0,none⟩),.slice A l.length cA] wn _ from HST.out).mono ?_;intro e w1 h1;clear e0 e1 e2 e3 e4 e5 z0 z1 z2 z3 z4 z5;cases res with
 | bad a1=>
  obtain ⟨rfl,hu1⟩:=h1;have hA1:=HA.out.upd hu1 (HNI.out _ (by omega) (by omega));have hE1:=HE.out.upd hu1 (HNI.out _ (by omega) (by omega));have HU1:=Hi (in2_upd HU0.out hu1 (by have:=HSN.out;omega));have HA1:=Hi hA1;have HE1:=Hi hE1;clear hu1;go_wp2_with fail
  refine leaves_cons (f:=73) (args:=#[.pointer (some ⟨g0+1,0,none⟩),.pointer (some ⟨g0+2,0,none⟩)]) (by simp) (by simp [go_sem]) ?_;refine (catch_wrong (g0+1) a1 w1 HA1.out HE1.out).mono ?_;rintro e u' w4 ⟨rfl,rfl,hA4,hE4,hU4⟩;exact ⟨_,res2 hA4 hE4 _ rfl rfl,rfl,upd_then HU1.out hU4 fun b hb hlt=>by have:=HG0.out;omega⟩
 | ok d=>
  obtain ⟨rfl,hc1,hu1⟩:=h1;have hA1:=HA.out.upd hu1 (HNI.out _ (by omega) (by omega));have hE1:=HE.out.upd hu1 (HNI.out _ (by omega) (by omega));have HU1:=Hi (in2_upd HU0.out hu1 (by have:=HSN.out;omega));have HC1:=Hi (in2_new hc1 (Nat.le_refl _));have c1:w1.cell? ⟨g0+1,0,none⟩=some (.int .i64 0):=hA1.cell 0;have c2:w1.cell? ⟨g0+2,0,none⟩=some (.int .i64 0):=hE1.cell 0;have f1:=hA1.frozen 0;have f2:=hE1.frozen 0;have hg12:g0+1≠g0+2:=by omega
  have HA2:=Hi (show Blk _ (g0+1) 3 #[.int .i64 0] from (hA1.set 0 (.int .i64 0)).far (p:=⟨g0+2,0,none⟩) hg12 (.int .i64 0));have HE2:=Hi (show Blk _ (g0+2) 47 #[.int .i64 0] from (hE1.far (p:=⟨g0+1,0,none⟩) (Ne.symm hg12) (.int .i64 0)).set 0 (.int .i64 0));have hu2:=((Upd.refl (fun b=>b=g0+1∨b=g0+2) w1).setCell (p:=⟨g0+1,0,none⟩) (fun _=>.inl rfl) (.int .i64 0)).setCell (p:=⟨g0+2,0,none⟩) (fun _=>.inr rfl) (.int .i64 0);have HC2:=Hi (in2_out (HC1.out.far hu2 fun b hb h=>by rcases h with h | h <;> exact HNI.out b (by omega) (by omega) hb) (by have:=HSN.out;omega));have HU2:=Hi (upd_then HU1.out hu2 fun b hb hlt=>by have:=HG0.out;omega);clear hu1 hc1 hA1 hE1 hu2;go_wp2_with fail
  refine leaves_cons (f:=73) (args:=#[.pointer (some ⟨g0+1,0,none⟩),.pointer (some ⟨g0+2,0,none⟩)]) (by simp) (by simp [go_sem]) ?_;refine (catch_idle ⟨g0+1,0,none⟩ ⟨g0+2,0,none⟩ _).mono ?_;rintro e u' w7 ⟨rfl,rfl,rfl⟩;exact ⟨_,res2 HA2.out HE2.out _ rfl rfl,rfl,HC2.out,HU2.out⟩
end
end Go.Proofs.YtdhoemlomojfaaaGreatDoor.Nm
