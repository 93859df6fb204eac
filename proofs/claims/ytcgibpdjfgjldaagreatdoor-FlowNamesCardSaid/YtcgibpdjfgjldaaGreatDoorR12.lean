/- DERIVED. NmR8. By an AI agent. -/
import Derived.Test.YtcgibpdjfgjldaaGreatDoorR10
set_option maxRecDepth 100000
set_option maxHeartbeats 8000000
set_option linter.unusedVariables false
set_option linter.unusedSimpArgs false
open Go Go.ChangeShapes Go.WideShapes Go.ChangeAt Go.RowKit
namespace Go.Proofs.YtcgibpdjfgjldaaGreatDoor
namespace Nm
open Lx Args Pa Sh
def in8(d:RS)(s:Bs)(i:Nat):Bool:=((d.ou.take i).map (·.1)).contains s
theorem q7w(d:RS)(s:Bs):in8 d s 0=false:=by simp [in8]
theorem q7x{d:RS}{s:Bs}{i:Nat}{x:Bs×Bool}(h:d.ou[i]?=some x):in8 d s (i+1)=(in8 d s i || (x.1==s)):=by
 unfold in8;have e:d.ou.take (i+1)=d.ou.take i ++ [x]:=V21;rw [e,List.map_append];refine q0c ?_;simp only [List.contains_iff_mem,List.mem_append,Bool.or_eq_true,beq_iff_eq,List.map_cons,List.map_nil,List.mem_singleton];constructor
 ·rintro (h | h)
  ·exact .inl h
  ·exact .inr h.symm
 ·rintro (h | h)
  ·exact .inl h
  ·exact .inr h.symm
theorem q7y(d:RS)(s:Bs):in8 d s d.ou.length=(d.ou.map (·.1)).contains s:=by
 unfold in8;rw [List.take_length]
theorem q7z(o:Option Int)(c c':Bool)(a:Int):bT (bT o c a) c' a=bT o (c || c') a:=by
 cases o with
 | some b=>rfl
 | none=>cases c <;> cases c' <;> rfl
theorem q5y(o:Option Int)(a:Int):bT o false a=o:=by cases o <;> rfl
theorem AZ.below8{w wx wy:World}{g:Nat}{v0 v1 v2 v3 v4 v7 v8 v9:Value}{d:RS}{b:Option Int}{cs:Array Value}(h:AZ w wx g v0 v1 v2 v3 v4 v7 v8 v9 d b cs)(hb:Below wx.heap.size wx wy):AZ w wy g v0 v1 v2 v3 v4 v7 v8 v9 d b cs:=
 ⟨h.ev.below hb,h.up.trans (Upd.of_below hb _),h.bx.below hb h.bx.lt⟩
theorem rst8(k:Int)(hk:k = 8\/k = 9)(w0 w:World)(N:Nat->Prop)(lo g:Nat)(v:Nat->Value)(d:RS)(m:Nat)(a:Int)(s:Bs)(n:Nat)(A:Option Addr)(cA:Nat)(B:Option Addr)(lb cB:Nat)(l:List Tz)(css:List (List Value))(hb:Below w0.heap.size w0 w)(hL:Af w0 A css.flatten)(hS:TsIz w0 l css)(hl:l.length<=maxLen)
  (hN:∀ b,N b->w0.heap.size<=b) (hR:RV N lo w g v d) (hbad:d.bad=none) (hbd:∀ i,i < 8->rvN d i<=m) (hm:m+1<=1099511627776) :
  Calls Tryz.prog 31 #[.pointer (some ⟨g,0,none⟩),aO k a s n A l.length cA B lb cB] w (RStP N lo w g { d with bad:=bT (aB (aJ d) (aD d.fn d.many) l) ((d.ou.map (·.1)).contains s) a,ou:=d.ou ++ [(s,(k==9))] } (m+1)):=by
 have b6:(k==6)=false:=V22;have b7:(k==7)=false:=V22;have b12:(k==12)=false:=V22;obtain ⟨i0,hi,hz⟩:=Option.map_eq_some_iff.1 infoL;have hz0:=congrArg (·.1) hz;have hz1:=congrArg (·.2.1) hz;have hz2:=congrArg (·.2.2) hz;have HI:=Hi hi;have HZ0:=Hi hz0;have HZ1:=Hi hz1;have HZ2:=Hi hz2;clear hi hz hz0 hz1 hz2;have hlm:l.length<=9223372036854775807:=hl;obtain ⟨wn,hwn,hbn,aK,hsn⟩:=dw w (nB k a s n A l.length cA B lb cB);have hgw:=hR.lt;have hne:¬ w.heap.size=g:=V0;have hev:=hR.ev;rw [hbad] at hev;have h0:AZ w wn g (v 0) (v 1) (v 2) (v 3) (v 4) (v 5) (v 6) (v 7) d none (nB k a s n A l.length cA B lb cB):=⟨hev.below hbn,Upd.of_below hbn _,aK⟩;have HW:=Hi hwn;have Ay:=Hi hb;have HRV:=Hi hR;have Az:=Hi hbd;have HM:=Hi hm;have HSN:=Hi hsn;obtain ⟨⟨e0,e1,e2,e3,e4,e5⟩,z0,z1,z2,z3,z4,z5⟩:=Aa.c6 aK;obtain ⟨ba,hblk,_⟩:=h0.ev.blk;obtain ⟨⟨c0,c1,c2,c3,c4,c5,c6,c7,c8,c9⟩,f5,f6⟩:=EV.c10 hblk;have hltn:=aK.lt;have H00:=Hi h0;have H0:=Hi (show AZ w wn g (v 0) (v 1) (v 2) (v 3) (v 4) (v 5) (v 6) (v 7) d (aB (aJ d) (aD d.fn d.many) (l.take 0)) (nB k a s n A l.length cA B lb cB) from V1F);have hg0:=hN g hR.bY.1;have HNN:=Hi hN;have HL:=Hi hL;have HS:=Hi hS;obtain ⟨A7,c7',hv7⟩:∃ A7 c7',v 7 = .slice A7 d.ou.length c7':=by
  have h:=hR.own 7 V2;obtain ⟨A7,c7',h7⟩:=q07 h;exact ⟨A7,c7',h7⟩
 have HV7:=Hi hv7;have hou:d.ou.length<=9223372036854775807:=by have:d.ou.length<=m:=hbd 7 V2;omega
 obtain ⟨dr,hdr0⟩:∃ dr,({ d with bad:=bT (aB (aJ d) (aD d.fn d.many) l) ((d.ou.map (·.1)).contains s) a,ou:=d.ou ++ [(s,(k==9))] }:RS)=dr:=⟨_,rfl⟩;rw [hdr0];have HDR:=Hi hdr0;clear hN hL hS hb h0 hwn hbn aK hsn hev hblk hR hbad hbd hm hl hv7 hdr0;go_enter Tryz.func31,Tryz.ntmps31;go_upto_region 1 with fail
 rw [HW.out]
 go_upto_if 255 with fail
 go_cut [255] from 257 to 257 (fun s wx=>s = .bool true/\wn=wx)
 case first=>
  exact V3y
 case rest=>
 obtain ⟨rfl,rfl⟩:=hcut;go_wp2_with fail
 go_loopw [9] (fun vi wr=>∃ i:Nat,i<=l.length/\vi = .int .i64 (i:Int)/\Hid (AZ w wr g (v 0) (v 1) (v 2) (v 3) (v 4) (v 5) (v 6) (v 7) d (aB (aJ d) (aD d.fn d.many) (l.take i)) (nB k a s n A l.length cA B lb cB))) (fun vi _=>l.length - (intOf vi).toNat)
 case atStart=>exact ⟨0,V0,rfl,H0⟩
 case round=>
  clear e0 e1 e2 e3 e4 e5 z0 z1 z2 z3 z4 z5 c0 c1 c2 c3 c4 c5 c6 c7 c8 c9 f5 f6 H0;obtain ⟨i,hi,rfl,Hr⟩:=hrel;obtain ⟨⟨e0,e1,e2,e3,e4,e5⟩,z0,z1,z2,z3,z4,z5⟩:=Aa.c6 Hr.out.bx;by_cases hlt:i < l.length
  ·obtain ⟨x,hx⟩:∃ x,l[i]?=some x:=⟨_,List.getElem?_eq_getElem hlt⟩;have HBr:=Hi (Ay.out.trans (Hr.out.up.below Ay.out.size fun b hb=>V0));obtain ⟨b2',o2,k3,a3,s3,n3,A3',la3,cA3,B3,lb3,cB3,rfl,hTx,hb3,g0,g1,g2,g3,g4,g5⟩:=q0T HBr.out HL.out HS.out hx;have HC:=Hi (expr_ (SizeOf.sizeOf x+1) x (Nat.lt_succ_self _) w0 wr g _ _ _ _ _ _ _ _ d _ k3 a3 s3 n3 A3' la3 cA3 B3 lb3 cB3 hTx HBr.out hg0 Hr.out.ev);rw [<-q1b _ _ l i x hx] at HC;clear hTx hx;go_wp2_with fail
   refine HC.out.mono ?_;rintro e w2 ⟨rfl,hE2,hu2⟩;have H3:=Hi (show AZ w w2 g (v 0) (v 1) (v 2) (v 3) (v 4) (v 5) (v 6) (v 7) d (aB (aJ d) (aD d.fn d.many) (l.take (i+1))) (nB k a s n (some ⟨b2',o2,none⟩) l.length cA B lb cB) from ⟨hE2,Hr.out.up.trans hu2,Hr.out.bx.upd hu2 hne⟩);exact V1s
  ·have hfull:=Hr.out;rw [List.take_of_length_le V0] at hfull;obtain ⟨bx,hbx⟩:∃ b,aB (aJ d) (aD d.fn d.many) l=b:=⟨_,rfl⟩;rw [hbx] at hfull HDR;clear hbx;have H2:=Hi (show AZ w wr g (v 0) (v 1) (v 2) (v 3) (v 4) (v 5) (v 6) (v 7) d (bT bx (in8 d s 0) a) (nB k a s n A l.length cA B lb cB) from by rw [q7w,q5y];exact hfull);clear hfull;go_upto_region 34 with fail
   clear Hr e0 e1 e2 e3 e4 e5 z0 z1 z2 z3 z4 z5
   go_loopw [10] (fun vi wr=>∃ i:Nat,i<=d.ou.length/\vi = .int .i64 (i:Int)/\Hid (AZ w wr g (v 0) (v 1) (v 2) (v 3) (v 4) (v 5) (v 6) (v 7) d (bT bx (in8 d s i) a) (nB k a s n A l.length cA B lb cB))) (fun vi _=>d.ou.length - (intOf vi).toNat)
   case atStart=>exact ⟨0,V0,rfl,H2⟩
   case round=>
    clear H2;obtain ⟨j,hj,rfl,Hq⟩:=hrel;obtain ⟨⟨e0,e1,e2,e3,e4,e5⟩,z0,z1,z2,z3,z4,z5⟩:=Aa.c6 Hq.out.bx;obtain ⟨bq,hbq,_⟩:=Hq.out.ev.blk;rw [HV7.out] at hbq;obtain ⟨⟨c0,c1,c2,c3,c4,c5,c6,c7,c8,c9⟩,f5,f6⟩:=EV.c10 hbq;clear hbq;by_cases hjl:j < d.ou.length
    ·obtain ⟨⟨t,q0⟩,hx⟩:∃ x,d.ou[j]?=some x:=⟨_,List.getElem?_eq_getElem hjl⟩;have hil:(j:Int) < (d.ou.length:Int):=V0;have hown:wr.ownsRow lo 36 3 (v 7) d.ou.length (d.ou.flatMap laC):=ae (HRV.out.own 7 V2) Hq.out.up fun b hb e=>HRV.out.far 7 V2 Ve
     rw [HV7.out] at hown;obtain ⟨b2',o2,rfl,hb3,g0,g1,g2⟩:=q7s (q0o hown) hx;obtain ⟨q,hq⟩:∃ q,(t==s)=q:=⟨_,rfl⟩;have hdr:Below wr.heap.size wr wr.drew:=Below.drew (Below.refl _ _);have hz:=Hq.out.below8 hdr;have HSU:=Hi (q7x (s:=s) hx);clear hown hx;go_upto_region 36 with fail
     go_still_tail 14,V1
     change wpList _ _ _ _ _ wr.drew;generalize wr.drew=wz at hz hdr ⊢;have HC:=Hi (hz.bad hne q);have HQ:=Hi hq;clear hz hdr e0 e1 e2 e3 e4 e5 z0 z1 z2 z3 z4 z5 c0 c1 c2 c3 c4 c5 c6 c7 c8 c9 f5 f6 g0 g1 g2 hq;go_wp2_with fail
     refine HC.out.mono ?_;rintro e w2 ⟨rfl,hE2⟩;have H3:=Hi (show AZ w w2 g (v 0) (v 1) (v 2) (v 3) (v 4) (v 5) (v 6) (v 7) d (bT bx (in8 d s (j+1)) a) (nB k a s n A l.length cA B lb cB) from by
      rw [HSU.out,<-q7z];show AZ w w2 g (v 0) (v 1) (v 2) (v 3) (v 4) (v 5) (v 6) (v 7) d (bT (bT bx (in8 d s j) a) (t==s) a) (nB k a s n A l.length cA B lb cB);rw [HQ.out];exact hE2)
     clear hE2 HC;exact V3u
    ·have hfull:=Hq.out;obtain rfl:j=d.ou.length:=V0;rw [q7y] at hfull;have HV:=Hi (RvI.of_ea HRV.out Az.out hfull);obtain ⟨by_,hby⟩:∃ b,bT bx ((d.ou.map (·.1)).contains s) a=b:=⟨_,rfl⟩;rw [hby] at HV HDR;clear hfull hby;go_upto_region 37 with fail
     clear Hq e0 e1 e2 e3 e4 e5 z0 z1 z2 z3 z4 z5 c0 c1 c2 c3 c4 c5 c6 c7 c8 c9 f5 f6
     as_aux_lemma=>
      have hdr:Below wr.heap.size wr wr.drew:=Below.drew (Below.refl _ _);obtain ⟨wy,hwd⟩:∃ u,wr.drew=u:=⟨_,rfl⟩;rw [hwd] at hdr;have HY:=Hi (HV.out.below hdr);have HDRB:=Hi hdr;clear HV hdr;obtain ⟨w4,hw4,hb4,-⟩:=aS wy #[.string ⟨s.toArray⟩,.bool false,.bool (k==9)] 36;have hL4:Af w4 (some ⟨wy.heap.size,0,none⟩) (laC (s,(k==9))):=by rw [<-hw4];exact q06 _ _ (laC (s,(k==9)))
      have hs4':wy.heap.size<=w4.heap.size:=hb4.size;have ho4:w4.ownsRow lo 36 3 (v 7) d.ou.length (d.ou.flatMap laC):=(HY.out.below hb4).rv.own 7 V2;have hlo4:lo<=w4.heap.size:=(HY.out.below hb4).rv.low.2;have hvl:d.ou.length<=m:=Az.out 7 V2;have hlim:=HM.out;have hZ1:Upd (fun b=>(v 7).ownBlock=some b\/b=g) wy wy:=Upd.refl _ _;have hS1:Upd (fun b=>(v 7).ownBlock=some b) wy wy:=Upd.refl _ _;have hz4:Upd (fun b=>(v 7).ownBlock=some b\/b=g) wy w4:=Upd.of_below hb4 _;have hs4:Upd (fun b=>(v 7).ownBlock=some b) wy w4:=Upd.of_below hb4 _;have HNV:=Hi (show ¬ ((v 7).ownBlock=some w.heap.size\/w.heap.size=g) from fun h=>h.elim (HY.out.notv 7 V2) HY.out.notg);clear hb4;go_wp2_with fail
      refine HT.wp_region (Z:=fun w'=>Upd (fun b=>(v 7).ownBlock=some b\/b=g) wy w') (S:=fun w'=>Upd (fun b=>(v 7).ownBlock=some b) wy w') (st:=[17]) V1 ?_;rw [hwd];clear hwd;refine HT.tm 0 rfl hZ1 (fun _=>hS1) ?_;refine HT.tm 1 rfl hZ1 (fun _=>hS1) ?_;refine HT.tm 2 rfl hZ1 (fun _=>hS1) ?_;refine HT.tm 3 rfl hZ1 (fun _=>hS1) ?_;refine HT.tm 4 rfl hZ1 (fun _=>hS1) ?_;refine HT.ts 5 rfl (by intro v hSw;obtain ⟨hB,x5,x6,hA⟩:=HY.out.zed 7 V2 hSw;have C_:=EV.c10 hA;clear hSw hA hB;go_simp;try with_reducible rfl) hZ1 hS1 ?_;refine HT.tm 6 rfl hZ1 (fun _=>hS1) ?_;refine HT.tk 7 rfl V00 hZ1 (fun _=>hS1) ?_;refine HT.tm 8 rfl hZ1 (fun _=>hS1) ?_;refine HT.tk 9 rfl V00 hZ1 (fun _=>hS1) ?_;refine HT.tm 10 rfl hZ1 (fun _=>hS1) ?_;refine HT.tm 11 rfl hZ1 (fun _=>hS1) ?_;refine HT.one (i:=12) V1 rfl (fun K hK=>?_);go_simp;(try rw [hw4]);(try dsimp only);refine hK.out _ _ hz4 hs4 ?_;clear hK K;(try simp only [HT.pS]);refine HT.one (i:=13) V1 rfl (fun K hK=>?_);refine q0b rfl _ _ 31 rfl lo 36 i0 (.agg #[.string ⟨#[]⟩,.bool false,.bool false]) 3 24 Tryz.underlying31 HI.out HZ0.out HZ1.out HZ2.out rfl V2 (v 7) d.ou.length _ rfl ho4 (some ⟨wy.heap.size,0,none⟩) 1 1 (laC (s,(k==9))) rfl rfl hL4 (by simp [laC,Value.oneCell']) V6 V0 hlo4 ?_;intro v' w8 hown hgrow hat;obtain ⟨vA,vc,rfl⟩:=q07 hown;have aV:Upd (fun b=>(v 7).ownBlock=some b) wy w8:=hs4.grown hgrow fun b hb _=>hb
      have bR:Upd (fun b=>(v 7).ownBlock=some b\/b=g) wy w8:=aV.mono fun b hb=>.inl hb
      have HUP:=Hi (bR.setCell (p:=⟨g,9,none⟩) (fun _=>.inr rfl) (.slice vA (d.ou.length+1) vc));have HAT:=Hi hat;have HS4:=Hi hs4';(try dsimp only);refine hK.out _ _ bR aV ?_;clear hK K;(try simp only [HT.pS]);refine HT.tm 14 rfl bR (fun _=>aV) ?_;refine HT.tm 15 rfl bR (fun _=>aV) ?_;refine HT.tm 16 rfl bR (fun _=>aV) ?_;obtain ⟨hB8,x5,x6,hG8⟩:=HY.out.zed 7 V2 aV;obtain ⟨⟨c0,c1,c2,c3,c4,c5,c6,c7,c8,c9⟩,f5,f6⟩:=EV.c10 hG8;have fz:=hG8.frozen 9;have hg8:=hG8.lt;clear hB8;refine HT.oneS (i:=17) V1 V1 rfl (fun K hK=>?_);go_simp;refine hK.out _ _ (bR.setCell (p:=⟨g,9,none⟩) (fun _=>.inr rfl) _) ?_;clear hK K;(try simp only [HT.pS]);refine HT.done V1 ?_;have hfin:=HY.out.row (d':={ d with bad:=by_,ou:=d.ou ++ [(s,(k==9))] }) (m':=(m+1)) 7 V2 aV (by
        show w8.ownsRow lo 36 3 _ (d.ou ++ [(s,(k==9))]).length ((d.ou ++ [(s,(k==9))]).flatMap laC);rw [List.length_append,List.flatMap_append];exact hown) (hat.imp id fun h=>⟨_,h,hs4'⟩)
       (fun j hj hne1=>by
        have h8:j = 0\/j = 1\/j = 2\/j = 3\/j = 4\/j = 5\/j = 6:=V0;rcases h8 with rfl | rfl | rfl | rfl | rfl | rfl | rfl <;> exact ⟨rfl,rfl⟩) rfl HY.out.rv.len V0 (by show (d.ou ++ [(s,(k==9))]).length<=_;rw [List.length_append];exact Nat.succ_le_succ hvl)
      have HFIN:=Hi hfin;clear hown hat hfin hgrow aV bR hG8 c0 c1 c2 c3 c4 c5 c6 c7 c8 c9 f5 f6 fz hg8 hZ1 hS1;have hend:=HFIN.out.end_;rw [HDR.out] at hend;have Ac:=Hi hend;clear hend;go_wp2_with fail
      first | go_end0 | skip
      all_goals first | exact Ac.out | exact bodyPost_ret (results_none rfl _ _ _) rfl Ac.out
end Nm
end Go.Proofs.YtcgibpdjfgjldaaGreatDoor
