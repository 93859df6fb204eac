/- DERIVED. NmRl. By an AI agent. -/
import Derived.Test.YtcgibpdjfgjldaaGreatDoorR10
set_option maxRecDepth 100000
set_option maxHeartbeats 8000000
set_option linter.unusedVariables false
set_option linter.unusedSimpArgs false
open Go Go.ChangeShapes Go.WideShapes Go.ChangeAt Go.RowKit
namespace Go.Proofs.YtcgibpdjfgjldaaGreatDoor
namespace Nm
open Lx Args Pa Sh
theorem rst10(w0 w:World)(N:Nat->Prop)(lo g:Nat)(v:Nat->Value)(d:RS)(m:Nat)(a:Int)(s:Bs)(n:Nat)(A:Option Addr)(cA:Nat)(B:Option Addr)(lb cB:Nat)(l:List Tz)(css:List (List Value))(hb:Below w0.heap.size w0 w)(hL:Af w0 A css.flatten)(hS:TsIz w0 l css)(hl:l.length<=maxLen)
  (hg0:w0.heap.size<=g) (hR:RV N lo w g v d) (hbad:d.bad=none) (hbd:∀ i,i < 8->rvN d i<=m) (hm:m+1<=1099511627776) :
  Calls Tryz.prog 31 #[.pointer (some ⟨g,0,none⟩),aO 10 a s n A l.length cA B lb cB] w (RStP N lo w g { d with bad:=bT (aB (aJ d) (aD d.fn d.many) l) (d.aT.contains s || d.aN.contains s || d.fn.contains s) a,var:=d.var ++ [s] } (m+1)):=by
 obtain ⟨i0,hi,hz⟩:=Option.map_eq_some_iff.1 infoS;have hz0:=congrArg (·.1) hz;have hz1:=congrArg (·.2.1) hz;have hz2:=congrArg (·.2.2) hz;have HI:=Hi hi;have HZ0:=Hi hz0;have HZ1:=Hi hz1;have HZ2:=Hi hz2;clear hi hz hz0 hz1 hz2;have hlm:l.length<=9223372036854775807:=hl;obtain ⟨wn,hwn,hbn,aK,hsn⟩:=dw w (nB 10 a s n A l.length cA B lb cB);have hgw:=hR.lt;have hne:¬ w.heap.size=g:=V0;have hev:=hR.ev;rw [hbad] at hev;have h0:AZ w wn g (v 0) (v 1) (v 2) (v 3) (v 4) (v 5) (v 6) (v 7) d none (nB 10 a s n A l.length cA B lb cB):=⟨hev.below hbn,Upd.of_below hbn _,aK⟩;have H0:=Hi (show AZ w wn g (v 0) (v 1) (v 2) (v 3) (v 4) (v 5) (v 6) (v 7) d (aB (aJ d) (aD d.fn d.many) (l.take 0)) (nB 10 a s n A l.length cA B lb cB) from V1F);have HW:=Hi hwn;have HL:=Hi hL;have HS:=Hi hS;have Ay:=Hi hb;have HRV:=Hi hR;have Az:=Hi hbd;have HM:=Hi hm;have HSN:=Hi hsn;obtain ⟨⟨e0,e1,e2,e3,e4,e5⟩,z0,z1,z2,z3,z4,z5⟩:=Aa.c6 aK;obtain ⟨ba,hblk,_⟩:=h0.ev.blk;obtain ⟨⟨c0,c1,c2,c3,c4,c5,c6,c7,c8,c9⟩,f5,f6⟩:=EV.c10 hblk;have hltn:=aK.lt;obtain ⟨dr,hdr0⟩:∃ dr,({ d with bad:=bT (aB (aJ d) (aD d.fn d.many) l) (d.aT.contains s || d.aN.contains s || d.fn.contains s) a,var:=d.var ++ [s] }:RS)=dr:=⟨_,rfl⟩;rw [hdr0];have HDR:=Hi hdr0;clear hL hS hb h0 hwn hbn aK hsn hev hblk hR hbad hbd hl hdr0;go_enter Tryz.func31,Tryz.ntmps31;go_upto_region 1 with fail
 rw [HW.out];go_wp2_with fail
 go_loopw [11] (fun vi wr=>∃ i:Nat,i<=l.length/\vi = .int .i64 (i:Int)/\Hid (AZ w wr g (v 0) (v 1) (v 2) (v 3) (v 4) (v 5) (v 6) (v 7) d (aB (aJ d) (aD d.fn d.many) (l.take i)) (nB 10 a s n A l.length cA B lb cB))) (fun vi _=>l.length - (intOf vi).toNat)
 case atStart=>exact ⟨0,V0,rfl,H0⟩
 case round=>
  clear e0 e1 e2 e3 e4 e5 z0 z1 z2 z3 z4 z5 c0 c1 c2 c3 c4 c5 c6 c7 c8 c9 f5 f6 H0;obtain ⟨i,hi,rfl,Hr⟩:=hrel;obtain ⟨⟨e0,e1,e2,e3,e4,e5⟩,z0,z1,z2,z3,z4,z5⟩:=Aa.c6 Hr.out.bx;by_cases hlt:i < l.length
  ·obtain ⟨x,hx⟩:∃ x,l[i]?=some x:=⟨_,List.getElem?_eq_getElem hlt⟩;have HBr:=Hi (Ay.out.trans (Hr.out.up.below Ay.out.size fun b hb=>V0));obtain ⟨b2',o2,k3,a3,s3,n3,A3',la3,cA3,B3,lb3,cB3,rfl,hTx,hb3,g0,g1,g2,g3,g4,g5⟩:=q0T HBr.out HL.out HS.out hx;have HC:=Hi (expr_ (SizeOf.sizeOf x+1) x (Nat.lt_succ_self _) w0 wr g _ _ _ _ _ _ _ _ d _ k3 a3 s3 n3 A3' la3 cA3 B3 lb3 cB3 hTx HBr.out hg0 Hr.out.ev);rw [<-q1b _ _ l i x hx] at HC;clear hTx hx;go_wp2_with fail
   refine HC.out.mono ?_;rintro e w2 ⟨rfl,hE2,hu2⟩;have H3:=Hi (show AZ w w2 g (v 0) (v 1) (v 2) (v 3) (v 4) (v 5) (v 6) (v 7) d (aB (aJ d) (aD d.fn d.many) (l.take (i+1))) (nB 10 a s n (some ⟨b2',o2,none⟩) l.length cA B lb cB) from ⟨hE2,Hr.out.up.trans hu2,Hr.out.bx.upd hu2 hne⟩);exact V1s
  ·have hfull:=Hr.out;rw [List.take_of_length_le V0] at hfull;have hdr:Below wr.heap.size wr wr.drew:=Below.drew (Below.refl _ _);obtain ⟨wz,hwd⟩:∃ v,wr.drew=v:=⟨_,rfl⟩;rw [hwd] at hdr;obtain ⟨bx,hbx⟩:∃ b,aB (aJ d) (aD d.fn d.many) l=b:=⟨_,rfl⟩;rw [hbx] at hfull;have hz:AZ w wz g (v 0) (v 1) (v 2) (v 3) (v 4) (v 5) (v 6) (v 7) d bx (nB 10 a s n A l.length cA B lb cB):=⟨hfull.ev.below hdr,hfull.up.trans (Upd.of_below hdr _),hfull.bx.below hdr hfull.bx.lt⟩;have aa:=hz.ez;have HI0:=Hi (q1L s wz g _ _ hz.ev.aT);have HI2:=Hi (q1L s wz g _ _ hz.ev.aN);have HI3:=Hi (q1L s wz g _ _ hz.ev.fn);have AA:=Hi fun q=>hz.bad hne q
   have HX:=Hi hbx;obtain ⟨p0,hp0⟩:∃ p,d.aT.contains s=p:=⟨_,rfl⟩;obtain ⟨p2,hp2⟩:∃ p,d.aN.contains s=p:=⟨_,rfl⟩;obtain ⟨p3,hp3⟩:∃ p,d.fn.contains s=p:=⟨_,rfl⟩;have Bb:=Hi hp0;have Ar:=Hi hp2;have HP3:=Hi hp3;rw [hp0] at HI0;rw [hp2] at HI2;rw [hp3] at HI3;clear hp0 hp2 hp3 hfull hdr hbx hz;go_upto_region 43 with fail
   clear e0 e1 e2 e3 e4 e5 z0 z1 z2 z3 z4 z5 Hr
   go_cut [] (fun wx=>Hid (AZ w wx g (v 0) (v 1) (v 2) (v 3) (v 4) (v 5) (v 6) (v 7) d (bT bx (p0 || p2 || p3) a) (nB 10 a s n A l.length cA B lb cB)))
   case first=>as_aux_lemma=>
    go_wp2_with fail
    refine HT.wp_region (Z:=fun w'=>EZ w w' g (v 0) (v 1) (v 2) (v 3) (v 4) (v 5) (v 6) (v 7) (nB 10 a s n A l.length cA B lb cB)) (S:=fun _=>True) (st:=[]) V1 ?_;rw [hwd];clear hwd;refine HT.k 0 rfl V5 aa ?_;refine HT.k 1 rfl V5 aa ?_;refine HT.k 2 rfl V5 aa ?_;refine HT.k 3 rfl V5 aa ?_;refine HT.k 4 rfl V5 aa ?_;refine HT.k 5 rfl V5 aa ?_;refine HT.k 6 rfl V5 aa ?_;refine HT.k 26 rfl V5 aa ?_;refine HT.one (i:=7) V1 rfl (fun K hK=>?_);go_simp;refine HI0.out.mono ?_;rintro e w' ⟨rfl,rfl⟩;(try dsimp only);refine hK.out _ _ aa trivial ?_;clear hK K;(try simp only [HT.pS]);cases p0 with
    | true=>as_aux_lemma=>
     refine HT.k 8 rfl V5 aa ?_;refine HT.s 9 aa ?_;refine HT.s 10 aa ?_;refine HT.s 11 aa ?_;refine HT.s 12 aa ?_;refine HT.s 13 aa ?_;refine HT.s 14 aa ?_;refine HT.s 15 aa ?_;exact V2y
    | false=>as_aux_lemma=>
     refine HT.k 8 rfl V5 aa ?_;refine HT.k 9 rfl V5 aa ?_;refine HT.k 10 rfl V5 aa ?_;refine HT.k 11 rfl V5 aa ?_;refine HT.k 12 rfl V5 aa ?_;refine HT.k 13 rfl V5 aa ?_;refine HT.k 14 rfl V5 aa ?_;refine HT.one (i:=15) V1 rfl (fun K hK=>?_);go_simp;refine HI2.out.mono ?_;rintro e w' ⟨rfl,rfl⟩;(try dsimp only);refine hK.out _ _ aa trivial ?_;clear hK K;(try simp only [HT.pS]);cases p2 with
     | true=>as_aux_lemma=>
      exact V2y
     | false=>as_aux_lemma=>
      refine HT.k 16 rfl V5 aa ?_;refine HT.k 17 rfl V5 aa ?_;refine HT.k 18 rfl V5 aa ?_;refine HT.k 19 rfl V5 aa ?_;refine HT.k 20 rfl V5 aa ?_;refine HT.k 21 rfl V5 aa ?_;refine HT.k 22 rfl V5 aa ?_;refine HT.k 23 rfl V5 aa ?_;refine HT.one (i:=24) V1 rfl (fun K hK=>?_);go_simp;refine HI3.out.mono ?_;rintro e w' ⟨rfl,rfl⟩;(try dsimp only);refine hK.out _ _ aa trivial ?_;clear hK K;(try simp only [HT.pS]);refine HT.k 25 rfl V5 aa ?_;refine HT.one (i:=27) V1 rfl (fun K hK=>?_);go_simp;refine (AA.out p3).mono ?_;exact Vq
   case rest=>as_aux_lemma=>
    have hE:=hcut.out;have hR2:=HRV.out.exR hE.ev hE.up;have hdr:Below wc.heap.size wc wc.drew:=Below.drew (Below.refl _ _);obtain ⟨wy,hwd⟩:∃ v,wc.drew=v:=⟨_,rfl⟩;rw [hwd] at hdr;have hRy:=hR2.below hdr;have HRY:=Hi hRy;have HXy:=Hi (hE.bx.below hdr hE.bx.lt);have HUy:=Hi (hE.up.trans (Upd.of_below hdr _));have HGV:=Hi (hRy.far 1 V2);have HVW:=Hi (show (v 1).ownBlock≠some w.heap.size from fun h=>by have:=(av (HRV.out.own 1 V2) _ h).2;omega);have HNV:=Hi (show ¬ ((v 1).ownBlock=some w.heap.size\/w.heap.size=g) from fun h=>h.elim HVW.out hne);have HBLK:=Hi hRy.blk;obtain ⟨w4,hw4,hb4,-⟩:=aS wy #[.string ⟨s.toArray⟩] 9;have hL4:Af w4 (some ⟨wy.heap.size,0,none⟩) [ai s]:=by rw [<-hw4];exact q06 _ _ [ai s]
    have hR4:=hRy.below hb4;have ho4:w4.ownsRow lo 9 1 (v 1) d.var.length (d.var.map ai):=hR4.own 1 V2;have hlo4:lo<=w4.heap.size:=hR4.low.2;have hvl:d.var.length<=m:=Az.out 1 V2;have hlim:m+1<=1099511627776:=HM.out;have hZ1:Upd (fun b=>(v 1).ownBlock=some b\/b=g) wy wy:=Upd.refl _ _;have hS1:Upd (fun b=>(v 1).ownBlock=some b) wy wy:=Upd.refl _ _;have hz4:Upd (fun b=>(v 1).ownBlock=some b\/b=g) wy w4:=Upd.of_below hb4 _;have hs4:Upd (fun b=>(v 1).ownBlock=some b) wy w4:=Upd.of_below hb4 _;clear hE hR2 hdr hRy hR4 hb4 hcut;go_wp2_with fail
    refine HT.wp_region (Z:=fun w'=>Upd (fun b=>(v 1).ownBlock=some b\/b=g) wy w') (S:=fun w'=>Upd (fun b=>(v 1).ownBlock=some b) wy w') (st:=[11]) V1 ?_;rw [hwd];clear hwd;refine HT.tm 0 rfl hZ1 (fun _=>hS1) ?_;refine HT.tm 1 rfl hZ1 (fun _=>hS1) ?_;refine HT.tm 2 rfl hZ1 (fun _=>hS1) ?_;refine HT.tm 3 rfl hZ1 (fun _=>hS1) ?_;refine HT.ts 4 rfl (by intro v hSw;obtain ⟨ba,hbk,_⟩:=HBLK.out;have hG:=hbk.upd hSw HGV.out;have C_:=EV.c10 hG;clear hSw hG;go_simp;try with_reducible rfl) hZ1 hS1 ?_;refine HT.tk 5 rfl V3E hZ1 (fun _=>hS1) ?_;refine HT.tk 6 rfl V3E hZ1 (fun _=>hS1) ?_;refine HT.one (i:=7) V1 rfl (fun K hK=>?_);go_simp;(try rw [hw4]);(try dsimp only);refine hK.out _ _ hz4 hs4 ?_;clear hK K;(try simp only [HT.pS]);refine HT.one (i:=8) V1 rfl (fun K hK=>?_);refine q0b rfl _ _ 24 rfl lo 9 i0 (.string ⟨#[]⟩) 1 16 Tryz.underlying24 HI.out HZ0.out HZ1.out HZ2.out rfl V2 (v 1) d.var.length _ rfl ho4 (some ⟨wy.heap.size,0,none⟩) 1 1 [ai s] rfl rfl hL4 V02 V6 V0 hlo4 ?_;intro v' w8 hown hgrow hat;obtain ⟨vA,vc,rfl⟩:=q07 hown;have aV:Upd (fun b=>(v 1).ownBlock=some b) wy w8:=hs4.grown hgrow fun b hb _=>hb
    have bR:Upd (fun b=>(v 1).ownBlock=some b\/b=g) wy w8:=aV.mono fun b hb=>.inl hb
    (try dsimp only);refine hK.out _ _ bR aV ?_;clear hK K;(try simp only [HT.pS]);refine HT.tm 9 rfl bR (fun _=>aV) ?_;refine HT.tm 10 rfl bR (fun _=>aV) ?_;obtain ⟨ba,hbk,_⟩:=HBLK.out;have hG8:=hbk.upd aV HGV.out;obtain ⟨⟨c0,c1,c2,c3,c4,c5,c6,c7,c8,c9⟩,f5,f6⟩:=EV.c10 hG8;have f1:=hG8.frozen 1;have hg8:=hG8.lt;refine HT.oneS (i:=11) V1 V1 rfl (fun K hK=>?_);go_simp;refine hK.out _ _ (bR.setCell (p:=⟨g,1,none⟩) (fun _=>.inr rfl) _) ?_;clear hK K;(try simp only [HT.pS]);refine HT.done V1 ?_;have hs4':wy.heap.size<=w4.heap.size:=by rw [<-hw4];simp
    obtain ⟨hfin,hup⟩:=HRY.out.row (d':={ d with bad:=bT bx (p0 || p2 || p3) a,var:=d.var ++ [s] }) (N':=New N w) 1 V2 aV (by
      show w8.ownsRow lo 9 1 _ (d.var ++ [s]).length ((d.var ++ [s]).map ai);rw [List.length_append,List.map_append];exact hown) (hat.imp id fun h=>⟨_,h,hs4'⟩)
     (fun j hj hne1=>by
      have h8:j = 0\/j = 2\/j = 3\/j = 4\/j = 5\/j = 6\/j = 7:=V0;rcases h8 with rfl | rfl | rfl | rfl | rfl | rfl | rfl <;> exact ⟨rfl,rfl⟩) rfl HRY.out.len (fun b hb=>.inl hb) (fun b hb _=>.inr (by have:=HUy.out.size;omega))
    have Ac:=Hi (show RStP N lo w g dr (m+1) (.returned (.tuple #[])) (w8.setCell ⟨g,1,none⟩ (.slice vA (d.var.length+1) vc)) from by
     rw [<-HDR.out,HX.out,Bb.out,Ar.out,HP3.out];refine ⟨rfl,⟨_,hfin⟩,fun j hj=>?_,?_⟩
     ·have h8:j = 0\/j = 1\/j = 2\/j = 3\/j = 4\/j = 5\/j = 6\/j = 7:=by omega
      rcases h8 with rfl | rfl | rfl | rfl | rfl | rfl | rfl | rfl
      ·exact Nat.le_succ_of_le (Az.out 0 V2)
      ·show (d.var ++ [s]).length<=m+1;rw [List.length_append];exact Nat.succ_le_succ hvl
      ·exact Nat.le_succ_of_le (Az.out 2 V2)
      ·exact Nat.le_succ_of_le (Az.out 3 V2)
      ·exact Nat.le_succ_of_le (Az.out 4 V2)
      ·exact Nat.le_succ_of_le (Az.out 5 V2)
      ·exact Nat.le_succ_of_le (Az.out 6 V2)
      ·exact Nat.le_succ_of_le (Az.out 7 V2)
     ·exact dm (HUy.out.mono fun b hb=>hb ▸ HRV.out.bY.1) hup fun b hb _=>by
       rcases hb with hb | hb
       ·exact HRV.out.bY.2 1 V2 b hb
       ·exact hb ▸ HRV.out.bY.1)
    clear hown hat hfin hup hgrow aV bR hG8 c0 c1 c2 c3 c4 c5 c6 c7 c8 c9 f5 f6 f1 hg8 hZ1 hS1 hbk;exact Vd
end Nm
end Go.Proofs.YtcgibpdjfgjldaaGreatDoor
