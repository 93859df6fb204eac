/- DERIVED. NmR6. By an AI agent. -/
import Derived.Test.YtcgibpdjfgjldaaGreatDoorR10
set_option maxRecDepth 100000
set_option maxHeartbeats 8000000
set_option linter.unusedVariables false
set_option linter.unusedSimpArgs false
open Go Go.ChangeShapes Go.WideShapes Go.ChangeAt Go.RowKit
namespace Go.Proofs.YtcgibpdjfgjldaaGreatDoor
namespace Nm
open Lx Args Pa Sh
def in6(d:RS)(ps:List Bs)(i:Nat):Bool:=(ps.take i).any (nmR d) || (decide (0 < i) && twB ps)
theorem q7t(d:RS)(ps:List Bs):in6 d ps 0=false:=by simp [in6]
theorem q7u{d:RS}{ps:List Bs}{i:Nat}{x:Bs}(h:ps[i]?=some x):in6 d ps (i+1)=(in6 d ps i || (nmR d x || twB ps)):=by
 unfold in6;have e:ps.take (i+1)=ps.take i ++ [x]:=V21;rw [e,List.any_append];have hp:decide (0 < i+1)=true:=V3;rw [hp];simp only [List.any_cons,List.any_nil,Bool.or_false,Bool.true_and];cases (ps.take i).any (nmR d) <;> cases nmR d x <;> cases twB ps <;> cases decide (0 < i) <;> rfl
theorem q7v(d:RS)(ps:List Bs):in6 d ps ps.length=(ps.any (nmR d) || twB ps):=by
 unfold in6;rw [List.take_length];cases ps with
 | nil=>rfl
 | cons p ps=>simp
theorem orB_orB(o:Option Int)(c c':Bool)(a:Int):bT (bT o c a) c' a=bT o (c || c') a:=by
 cases o with
 | some b=>rfl
 | none=>cases c <;> cases c' <;> rfl
theorem AZ.below{w wx wy:World}{g:Nat}{v0 v1 v2 v3 v4 v7 v8 v9:Value}{d:RS}{b:Option Int}{cs:Array Value}(h:AZ w wx g v0 v1 v2 v3 v4 v7 v8 v9 d b cs)(hb:Below wx.heap.size wx wy):AZ w wy g v0 v1 v2 v3 v4 v7 v8 v9 d b cs:=
 ⟨h.ev.below hb,h.up.trans (Upd.of_below hb _),h.bx.below hb h.bx.lt⟩
theorem rst6(k:Int)(hk:k = 6\/k = 7)(w0 w:World)(N:Nat->Prop)(lo g:Nat)(v:Nat->Value)(d:RS)(m:Nat)(a:Int)(s:Bs)(n:Nat)(A:Option Addr)(la cA:Nat)(B:Option Addr)(cB:Nat)(ps:List Bs)(hb:Below w0.heap.size w0 w)(hL:Af w0 B (ps.map ai))(hc:ps.length<=cB)(hcm:cB<=maxLen)
  (hN:∀ b,N b->w0.heap.size<=b) (hR:RV N lo w g v d) (hbad:d.bad=none) (hbd:∀ i,i < 8->rvN d i<=m) (hm:m+ps.length<=1099511627776) :
  Calls Tryz.prog 31 #[.pointer (some ⟨g,0,none⟩),aO k a s n A la cA B ps.length cB] w (RStP N lo w g { d with bad:=bT none (ps.any (nmR d) || twB ps) a,aT:=d.aT ++ ps,se:=if k = 6 then d.se ++ ps else d.se,pu:=if k = 6 then d.pu else d.pu ++ ps } (m+ps.length)):=by
 obtain ⟨i0,hi,hz⟩:=Option.map_eq_some_iff.1 infoS;have hz0:=congrArg (·.1) hz;have hz1:=congrArg (·.2.1) hz;have hz2:=congrArg (·.2.2) hz;have HI:=Hi hi;have HZ0:=Hi hz0;have HZ1:=Hi hz1;have HZ2:=Hi hz2;clear hi hz hz0 hz1 hz2;have hlm:ps.length<=9223372036854775807:=Nat.le_trans hc hcm;have hcl:cB<=9223372036854775807:=hcm;obtain ⟨wn,hwn,hbn,aK,hsn⟩:=dw w (nB k a s n A la cA B ps.length cB);have hgw:=hR.lt;have hne:¬ w.heap.size=g:=V0;have hev:=hR.ev;rw [hbad] at hev;have h0:AZ w wn g (v 0) (v 1) (v 2) (v 3) (v 4) (v 5) (v 6) (v 7) d none (nB k a s n A la cA B ps.length cB):=⟨hev.below hbn,Upd.of_below hbn _,aK⟩;have HW:=Hi hwn;have Ay:=Hi hb;have HRV:=Hi hR;have Az:=Hi hbd;have HM:=Hi hm;have HSN:=Hi hsn;obtain ⟨⟨e0,e1,e2,e3,e4,e5⟩,z0,z1,z2,z3,z4,z5⟩:=Aa.c6 aK;obtain ⟨ba,hblk,_⟩:=h0.ev.blk;obtain ⟨⟨c0,c1,c2,c3,c4,c5,c6,c7,c8,c9⟩,f5,f6⟩:=EV.c10 hblk;have hltn:=aK.lt;have H00:=Hi h0;have H0:=Hi (show AZ w wn g (v 0) (v 1) (v 2) (v 3) (v 4) (v 5) (v 6) (v 7) d (bT none (in6 d ps 0) a) (nB k a s n A la cA B ps.length cB) from by rw [q7t];exact h0);have hg0:=hN g hR.bY.1;have HNN:=Hi hN;have HL:=Hi hL;have HC:=Hi hc;have HCM:=Hi hcm;obtain ⟨dr,hdr0⟩:∃ dr,({ d with bad:=bT none (ps.any (nmR d) || twB ps) a,aT:=d.aT ++ ps,se:=if k = 6 then d.se ++ ps else d.se,pu:=if k = 6 then d.pu else d.pu ++ ps }:RS)=dr:=⟨_,rfl⟩;rw [hdr0];have HDR:=Hi hdr0;clear hN hL hb h0 hwn hbn aK hsn hev hblk hR hbad hbd hc hcm hm hdr0;go_enter Tryz.func31,Tryz.ntmps31;go_upto_region 1 with fail
 rw [HW.out]
 go_upto_if 23 with fail
 go_cut [23] from 25 to 25 (fun s wx=>s = .bool true/\wn=wx)
 case first=>
  exact V3y
 case rest=>
 obtain ⟨rfl,rfl⟩:=hcut;go_wp2_with fail
 go_loopw [4] (fun vi wr=>∃ i:Nat,i<=ps.length/\vi = .int .i64 (i:Int)/\Hid (AZ w wr g (v 0) (v 1) (v 2) (v 3) (v 4) (v 5) (v 6) (v 7) d (bT none (in6 d ps i) a) (nB k a s n A la cA B ps.length cB))) (fun vi _=>ps.length - (intOf vi).toNat)
 case atStart=>exact ⟨0,V0,rfl,H0⟩
 case round=>
  clear e0 e1 e2 e3 e4 e5 z0 z1 z2 z3 z4 z5 c0 c1 c2 c3 c4 c5 c6 c7 c8 c9 f5 f6 H0;obtain ⟨i,hi,rfl,Hr⟩:=hrel;obtain ⟨⟨e0,e1,e2,e3,e4,e5⟩,z0,z1,z2,z3,z4,z5⟩:=Aa.c6 Hr.out.bx;by_cases hlt:i < ps.length
  ·obtain ⟨x,hx⟩:∃ x,ps[i]?=some x:=⟨_,List.getElem?_eq_getElem hlt⟩;have t2:(ps.map ai)[i]?=some (.string ⟨x.toArray⟩):=V03;have HBr:=Hi (Ay.out.trans (Hr.out.up.below Ay.out.size fun b hb=>V0));have hLr:=HL.out.below HBr.out;obtain ⟨bB,oB,rfl,hbB,hcB2⟩:=hLr.at_ t2;have g0:=hcB2 _ _ t2;have HX:=Hi hx;obtain ⟨bx,hbx⟩:∃ b,bT none (in6 d ps i) a=b:=⟨_,rfl⟩;have hfull:=Hr.out;rw [hbx] at hfull;have hdr:Below wr.heap.size wr wr.drew:=Below.drew (Below.refl _ _);obtain ⟨wz,hwd⟩:∃ u,wr.drew=u:=⟨_,rfl⟩;rw [hwd] at hdr;have hz:=hfull.below hdr;have hLz:=hLr.below hdr;have aa:=hz.ez;have HZZ:=Hi hz;have HI0:=Hi (q1L x wz g _ _ hz.ev.aT);have HI1:=Hi (q1L x wz g _ _ hz.ev.var);have HI2:=Hi (q1L x wz g _ _ hz.ev.aN);have HI3:=Hi (q1L x wz g _ _ hz.ev.fn);have HTW:=Hi (twice_ wz _ cB ps hLz HC.out HCM.out);have AA:Hid (∀ (wx:World) (q:Bool),AZ w wx g (v 0) (v 1) (v 2) (v 3) (v 4) (v 5) (v 6) (v 7) d bx (nB k a s n A la cA (some ⟨bB,oB,none⟩) ps.length cB)->Calls Tryz.prog 64 #[.pointer (some ⟨g,0,none⟩),.bool q,aO k a s n A la cA (some ⟨bB,oB,none⟩) ps.length cB] wx fun e w'=>e = .returned (.tuple #[])/\AZ w w' g (v 0) (v 1) (v 2) (v 3) (v 4) (v 5) (v 6) (v 7) d (bT bx q a) (nB k a s n A la cA (some ⟨bB,oB,none⟩) ps.length cB)):=Hi fun wx q hv=>hv.bad hne q
   have HBX:=Hi hbx;obtain ⟨p0,hp0⟩:∃ p,d.aT.contains x=p:=⟨_,rfl⟩;obtain ⟨p1,hp1⟩:∃ p,d.var.contains x=p:=⟨_,rfl⟩;obtain ⟨p2,hp2⟩:∃ p,d.aN.contains x=p:=⟨_,rfl⟩;obtain ⟨p3,hp3⟩:∃ p,d.fn.contains x=p:=⟨_,rfl⟩;obtain ⟨p4,hp4⟩:∃ p,twB ps=p:=⟨_,rfl⟩;have Bb:=Hi hp0;have Be:=Hi hp1;have Ar:=Hi hp2;have HP3:=Hi hp3;have HP4:=Hi hp4;rw [hp0] at HI0;rw [hp1] at HI1;rw [hp2] at HI2;rw [hp3] at HI3;rw [hp4] at HTW;clear hp0 hp1 hp2 hp3 hp4 hfull hdr hbx hz hLr hLz hbB hcB2 t2 hx
   go_upto_block 2 with fail
   go_cut [5] (fun s5 wx=>Hid (AZ w wx g (v 0) (v 1) (v 2) (v 3) (v 4) (v 5) (v 6) (v 7) d (bT bx (p0 || p1 || p2 || p3 || p4) a) (nB k a s n A la cA (some ⟨bB,oB,none⟩) ps.length cB)))
   case first=>as_aux_lemma=>
    go_upto_region 9 with fail
    clear e0 e1 e2 e3 e4 e5 z0 z1 z2 z3 z4 z5 g0;go_wp2_with fail
    refine HT.wp_region (Z:=fun w'=>EZ w w' g (v 0) (v 1) (v 2) (v 3) (v 4) (v 5) (v 6) (v 7) (nB k a s n A la cA (some ⟨bB,oB,none⟩) ps.length cB)) (S:=fun _=>True) (st:=[]) V1 ?_;rw [hwd];clear hwd;refine HT.m 0 aa ?_;refine HT.m 1 aa ?_;refine HT.m 2 aa ?_;refine HT.m 3 aa ?_;refine HT.k 4 rfl V5 aa ?_;refine HT.m 5 aa ?_;refine HT.k 36 rfl Vi aa ?_;refine HT.one (i:=6) V1 rfl (fun K hK=>?_);go_simp;refine HI0.out.mono ?_;rintro e w' ⟨rfl,rfl⟩;(try dsimp only);refine hK.out _ _ aa trivial ?_;clear hK K;(try simp only [HT.pS]);cases p0 with
    | true=>as_aux_lemma=>
     refine HT.m 7 aa ?_;refine HT.s 8 aa ?_;refine HT.s 9 aa ?_;refine HT.s 10 aa ?_;refine HT.s 11 aa ?_;refine HT.s 12 aa ?_;refine HT.s 13 aa ?_;exact V31
    | false=>as_aux_lemma=>
     refine HT.m 7 aa ?_;refine HT.m 8 aa ?_;refine HT.m 9 aa ?_;refine HT.m 10 aa ?_;refine HT.k 11 rfl V5 aa ?_;refine HT.m 12 aa ?_;refine HT.one (i:=13) V1 rfl (fun K hK=>?_);go_simp;refine HI1.out.mono ?_;rintro e w' ⟨rfl,rfl⟩;(try dsimp only);refine hK.out _ _ aa trivial ?_;clear hK K;(try simp only [HT.pS]);cases p1 with
     | true=>as_aux_lemma=>
      exact V31
     | false=>as_aux_lemma=>
      refine HT.m 14 aa ?_;refine HT.m 15 aa ?_;refine HT.m 16 aa ?_;refine HT.m 17 aa ?_;refine HT.m 18 aa ?_;refine HT.k 19 rfl V5 aa ?_;refine HT.m 20 aa ?_;refine HT.one (i:=21) V1 rfl (fun K hK=>?_);go_simp;refine HI2.out.mono ?_;rintro e w' ⟨rfl,rfl⟩;(try dsimp only);refine hK.out _ _ aa trivial ?_;clear hK K;(try simp only [HT.pS]);cases p2 with
      | true=>as_aux_lemma=>
       exact V2r
      | false=>as_aux_lemma=>
       refine HT.m 22 aa ?_;refine HT.m 23 aa ?_;refine HT.m 24 aa ?_;refine HT.m 25 aa ?_;refine HT.m 26 aa ?_;refine HT.k 27 rfl V5 aa ?_;refine HT.m 28 aa ?_;refine HT.one (i:=29) V1 rfl (fun K hK=>?_);go_simp;refine HI3.out.mono ?_;rintro e w' ⟨rfl,rfl⟩;(try dsimp only);refine hK.out _ _ aa trivial ?_;clear hK K;(try simp only [HT.pS]);cases p3 with
       | true=>as_aux_lemma=>
        refine HT.m 30 aa ?_;refine HT.m 31 aa ?_;refine HT.s 32 aa ?_;refine HT.s 33 aa ?_;refine HT.s 34 aa ?_;refine HT.m 35 aa ?_;refine HT.one (i:=37) V1 rfl (fun K hK=>?_);go_simp;refine (AA.out _ true HZZ.out).mono ?_;exact Vq
       | false=>as_aux_lemma=>
        refine HT.m 30 aa ?_;refine HT.m 31 aa ?_;refine HT.m 32 aa ?_;refine HT.k 33 rfl Vi aa ?_;refine HT.one (i:=34) V1 rfl (fun K hK=>?_);go_simp;refine HTW.out.mono ?_;rintro e w' ⟨rfl,hbT⟩;have hzT:=HZZ.out.below hbT;clear HZZ aa;have HZZ:=Hi hzT;have aa:=hzT.ez;clear hzT hbT;(try dsimp only);refine hK.out _ _ aa trivial ?_;clear hK K;(try simp only [HT.pS]);refine HT.m 35 aa ?_;refine HT.one (i:=37) V1 rfl (fun K hK=>?_);go_simp;refine (AA.out _ p4 HZZ.out).mono ?_;exact Vq
   case rest=>
    have H3:=Hi (show AZ w wc g (v 0) (v 1) (v 2) (v 3) (v 4) (v 5) (v 6) (v 7) d (bT none (in6 d ps (i+1)) a) (nB k a s n A la cA (some ⟨bB,oB,none⟩) ps.length cB) from by
     rw [q7u HX.out,<-orB_orB,HBX.out];show AZ w wc g (v 0) (v 1) (v 2) (v 3) (v 4) (v 5) (v 6) (v 7) d (bT bx ((((d.aT.contains x || d.var.contains x) || d.aN.contains x) || d.fn.contains x) || twB ps) a) (nB k a s n A la cA (some ⟨bB,oB,none⟩) ps.length cB);rw [Bb.out,Be.out,Ar.out,HP3.out,HP4.out];exact hcut.out)
    clear hcut AA HTW HI0 HI1 HI2 HI3 HZZ aa hwd e0 e1 e2 e3 e4 e5 z0 z1 z2 z3 z4 z5 g0;exact V1f
  ·have hfull:=Hr.out;obtain rfl:i=ps.length:=V0;rw [q7v] at hfull;have HV:=Hi (RvI.of_ea HRV.out Az.out hfull);obtain ⟨bx,hbx⟩:∃ b,bT none (ps.any (nmR d) || twB ps) a=b:=⟨_,rfl⟩;rw [hbx] at HV HDR;clear hfull hbx;go_upto_region 10 with fail
   clear Hr e0 e1 e2 e3 e4 e5 z0 z1 z2 z3 z4 z5
   go_cut [] from 76 to 85 (fun wx=>∃ u,Hid (RvI N lo w g u (nB k a s n A la cA B ps.length cB) { d with bad:=bx,aT:=d.aT ++ ps } (m+ps.length) wx))
   case first=>as_aux_lemma=>
    have hdr:Below wr.heap.size wr wr.drew:=Below.drew (Below.refl _ _);obtain ⟨wy,hwd⟩:∃ u,wr.drew=u:=⟨_,rfl⟩;rw [hwd] at hdr;have HY:=Hi (HV.out.below hdr);have HDRB:=Hi hdr;clear HV hdr;have hb4:Below wy.heap.size wy wy:=Below.refl _ _;have hL4:Af wy B (ps.map ai):=V1n;have hs4':wy.heap.size<=wy.heap.size:=Nat.le_refl _;have ho4:wy.ownsRow lo 9 1 (v 0) d.aT.length (d.aT.map ai):=(HY.out.below hb4).rv.own 0 V2;have hlo4:lo<=wy.heap.size:=(HY.out.below hb4).rv.low.2;have hvl:d.aT.length<=m:=Az.out 0 V2;have hlim:=HM.out;have hZ1:Upd (fun b=>(v 0).ownBlock=some b\/b=g) wy wy:=Upd.refl _ _;have hS1:Upd (fun b=>(v 0).ownBlock=some b) wy wy:=Upd.refl _ _;have hz4:Upd (fun b=>(v 0).ownBlock=some b\/b=g) wy wy:=Upd.of_below hb4 _;have hs4:Upd (fun b=>(v 0).ownBlock=some b) wy wy:=Upd.of_below hb4 _;have HNV:=Hi (show ¬ ((v 0).ownBlock=some w.heap.size\/w.heap.size=g) from fun h=>h.elim (HY.out.notv 0 V2) HY.out.notg);clear hb4;go_wp2_with fail
    refine HT.wp_region (Z:=fun w'=>Upd (fun b=>(v 0).ownBlock=some b\/b=g) wy w') (S:=fun w'=>Upd (fun b=>(v 0).ownBlock=some b) wy w') (st:=[10]) V1 ?_;rw [hwd];clear hwd;refine HT.tm 0 rfl hZ1 (fun _=>hS1) ?_;refine HT.tm 1 rfl hZ1 (fun _=>hS1) ?_;refine HT.tm 2 rfl hZ1 (fun _=>hS1) ?_;refine HT.tm 3 rfl hZ1 (fun _=>hS1) ?_;refine HT.ts 4 rfl (by intro v hSw;obtain ⟨hB,x5,x6,hA⟩:=HY.out.zed 0 V2 hSw;have C_:=EV.c10 hA;clear hSw hA hB;go_simp;try with_reducible rfl) hZ1 hS1 ?_;refine HT.tm 5 rfl hZ1 (fun _=>hS1) ?_;refine HT.tk 6 rfl V00 hZ1 (fun _=>hS1) ?_;refine HT.one (i:=7) V1 rfl (fun K hK=>?_);refine q0b rfl _ _ 24 rfl lo 9 i0 (.string ⟨#[]⟩) 1 16 Tryz.underlying24 HI.out HZ0.out HZ1.out HZ2.out rfl V2 (v 0) d.aT.length _ rfl ho4 B ps.length cB (ps.map ai) rfl Vw hL4 V1E V6 V0 hlo4 ?_;intro v' w8 hown hgrow hat;obtain ⟨vA,vc,rfl⟩:=q07 hown;have aV:Upd (fun b=>(v 0).ownBlock=some b) wy w8:=hs4.grown hgrow fun b hb _=>hb
    have bR:Upd (fun b=>(v 0).ownBlock=some b\/b=g) wy w8:=aV.mono fun b hb=>.inl hb
    have HUP:=Hi (bR.setCell (p:=⟨g,0,none⟩) (fun _=>.inr rfl) (.slice vA (d.aT.length+ps.length) vc));have HAT:=Hi hat;have HS4:=Hi hs4';(try dsimp only);refine hK.out _ _ bR aV ?_;clear hK K;(try simp only [HT.pS]);refine HT.tm 8 rfl bR (fun _=>aV) ?_;refine HT.tm 9 rfl bR (fun _=>aV) ?_;obtain ⟨hB8,x5,x6,hG8⟩:=HY.out.zed 0 V2 aV;obtain ⟨⟨c0,c1,c2,c3,c4,c5,c6,c7,c8,c9⟩,f5,f6⟩:=EV.c10 hG8;have fz:=hG8.frozen 0;have hg8:=hG8.lt;clear hB8;refine HT.oneS (i:=10) V1 V1 rfl (fun K hK=>?_);go_simp;refine hK.out _ _ (bR.setCell (p:=⟨g,0,none⟩) (fun _=>.inr rfl) _) ?_;clear hK K;(try simp only [HT.pS]);refine HT.done V1 ?_;have hfin:=HY.out.row (d':={ d with bad:=bx,aT:=d.aT ++ ps }) (m':=(m+ps.length)) 0 V2 aV (by
      show w8.ownsRow lo 9 1 _ (d.aT ++ ps).length ((d.aT ++ ps).map ai);rw [List.length_append,List.map_append];exact hown) (hat.imp id fun h=>⟨_,h,hs4'⟩)
     (fun j hj hne1=>by
      have h8:j = 1\/j = 2\/j = 3\/j = 4\/j = 5\/j = 6\/j = 7:=V0;rcases h8 with rfl | rfl | rfl | rfl | rfl | rfl | rfl <;> exact ⟨rfl,rfl⟩) rfl HY.out.rv.len V0 (by show (d.aT ++ ps).length<=_;rw [List.length_append];omega)
    have HFIN:=Hi hfin;clear hown hat hfin hgrow aV bR hG8 c0 c1 c2 c3 c4 c5 c6 c7 c8 c9 f5 f6 fz hg8 hZ1 hS1;go_wp2_with fail
    go_meet
    exact ⟨_,HFIN⟩
   case rest=>
    obtain ⟨v2,HV⟩:=hcut;obtain ⟨⟨e0,e1,e2,e3,e4,e5⟩,z0,z1,z2,z3,z4,z5⟩:=Aa.c6 HV.out.bx;by_cases h6:k = 6
    ·subst h6;have hdr6:=HDR.out;rw [if_pos rfl,if_pos rfl] at hdr6;clear HDR;have HDR:=Hi hdr6;clear hdr6;go_upto_region 12 with fail
     clear e0 e1 e2 e3 e4 e5 z0 z1 z2 z3 z4 z5
     as_aux_lemma=>
     have hdr:Below wc.heap.size wc wc.drew:=Below.drew (Below.refl _ _);obtain ⟨wy,hwd⟩:∃ u,wc.drew=u:=⟨_,rfl⟩;rw [hwd] at hdr;have HY:=Hi (HV.out.below hdr);have HDRB:=Hi hdr;clear HV hdr;have hb4:Below wy.heap.size wy wy:=Below.refl _ _;have hL4:Af wy B (ps.map ai):=V1n;have hs4':wy.heap.size<=wy.heap.size:=Nat.le_refl _;have ho4:wy.ownsRow lo 9 1 (v2 5) d.se.length (d.se.map ai):=(HY.out.below hb4).rv.own 5 V2;have hlo4:lo<=wy.heap.size:=(HY.out.below hb4).rv.low.2;have hvl:d.se.length<=m:=Az.out 5 V2;have hlim:=HM.out;have hZ1:Upd (fun b=>(v2 5).ownBlock=some b\/b=g) wy wy:=Upd.refl _ _;have hS1:Upd (fun b=>(v2 5).ownBlock=some b) wy wy:=Upd.refl _ _;have hz4:Upd (fun b=>(v2 5).ownBlock=some b\/b=g) wy wy:=Upd.of_below hb4 _;have hs4:Upd (fun b=>(v2 5).ownBlock=some b) wy wy:=Upd.of_below hb4 _;have HNV:=Hi (show ¬ ((v2 5).ownBlock=some w.heap.size\/w.heap.size=g) from fun h=>h.elim (HY.out.notv 5 V2) HY.out.notg);clear hb4;go_wp2_with fail
     refine HT.wp_region (Z:=fun w'=>Upd (fun b=>(v2 5).ownBlock=some b\/b=g) wy w') (S:=fun w'=>Upd (fun b=>(v2 5).ownBlock=some b) wy w') (st:=[12]) V1 ?_;rw [hwd];clear hwd;refine HT.tm 0 rfl hZ1 (fun _=>hS1) ?_;refine HT.tm 1 rfl hZ1 (fun _=>hS1) ?_;refine HT.tm 2 rfl hZ1 (fun _=>hS1) ?_;refine HT.tm 3 rfl hZ1 (fun _=>hS1) ?_;refine HT.tm 4 rfl hZ1 (fun _=>hS1) ?_;refine HT.ts 5 rfl (by intro v hSw;obtain ⟨hB,x5,x6,hA⟩:=HY.out.zed 5 V2 hSw;have C_:=EV.c10 hA;clear hSw hA hB;go_simp;try with_reducible rfl) hZ1 hS1 ?_;refine HT.tm 6 rfl hZ1 (fun _=>hS1) ?_;refine HT.tk 7 rfl V00 hZ1 (fun _=>hS1) ?_;refine HT.one (i:=8) V1 rfl (fun K hK=>?_);refine q0b rfl _ _ 24 rfl lo 9 i0 (.string ⟨#[]⟩) 1 16 Tryz.underlying24 HI.out HZ0.out HZ1.out HZ2.out rfl V2 (v2 5) d.se.length _ rfl ho4 B ps.length cB (ps.map ai) rfl Vw hL4 V1E V6 V0 hlo4 ?_;intro v' w8 hown hgrow hat;obtain ⟨vA,vc,rfl⟩:=q07 hown;have aV:Upd (fun b=>(v2 5).ownBlock=some b) wy w8:=hs4.grown hgrow fun b hb _=>hb
     have bR:Upd (fun b=>(v2 5).ownBlock=some b\/b=g) wy w8:=aV.mono fun b hb=>.inl hb
     have HUP:=Hi (bR.setCell (p:=⟨g,7,none⟩) (fun _=>.inr rfl) (.slice vA (d.se.length+ps.length) vc));have HAT:=Hi hat;have HS4:=Hi hs4';(try dsimp only);refine hK.out _ _ bR aV ?_;clear hK K;(try simp only [HT.pS]);refine HT.tm 9 rfl bR (fun _=>aV) ?_;refine HT.tm 10 rfl bR (fun _=>aV) ?_;refine HT.tm 11 rfl bR (fun _=>aV) ?_;obtain ⟨hB8,x5,x6,hG8⟩:=HY.out.zed 5 V2 aV;obtain ⟨⟨c0,c1,c2,c3,c4,c5,c6,c7,c8,c9⟩,f5,f6⟩:=EV.c10 hG8;have fz:=hG8.frozen 7;have hg8:=hG8.lt;clear hB8;refine HT.oneS (i:=12) V1 V1 rfl (fun K hK=>?_);go_simp;refine hK.out _ _ (bR.setCell (p:=⟨g,7,none⟩) (fun _=>.inr rfl) _) ?_;clear hK K;(try simp only [HT.pS]);refine HT.done V1 ?_;have hfin:=HY.out.row (d':={ d with bad:=bx,aT:=d.aT ++ ps,se:=d.se ++ ps }) (m':=(m+ps.length)) 5 V2 aV (by
       show w8.ownsRow lo 9 1 _ (d.se ++ ps).length ((d.se ++ ps).map ai);rw [List.length_append,List.map_append];exact hown) (hat.imp id fun h=>⟨_,h,hs4'⟩)
      (fun j hj hne1=>by
       have h8:j = 0\/j = 1\/j = 2\/j = 3\/j = 4\/j = 6\/j = 7:=V0;rcases h8 with rfl | rfl | rfl | rfl | rfl | rfl | rfl <;> exact ⟨rfl,rfl⟩) rfl HY.out.rv.len V0 V49
     have HFIN:=Hi hfin;clear hown hat hfin hgrow aV bR hG8 c0 c1 c2 c3 c4 c5 c6 c7 c8 c9 f5 f6 fz hg8 hZ1 hS1;have hend:=HFIN.out.end_;rw [HDR.out] at hend;have Ac:=Hi hend;clear hend;go_wp2_with fail
     first | go_end0 | skip
     all_goals first | exact Ac.out | exact bodyPost_ret (results_none rfl _ _ _) rfl Ac.out
    ·obtain rfl:k = 7:=hk.resolve_left h6;have hdr6:=HDR.out;rw [if_neg V2,if_neg V2] at hdr6;clear HDR;have HDR:=Hi hdr6;clear hdr6;go_upto_region 13 with fail
     clear e0 e1 e2 e3 e4 e5 z0 z1 z2 z3 z4 z5
     as_aux_lemma=>
     have hdr:Below wc.heap.size wc wc.drew:=Below.drew (Below.refl _ _);obtain ⟨wy,hwd⟩:∃ u,wc.drew=u:=⟨_,rfl⟩;rw [hwd] at hdr;have HY:=Hi (HV.out.below hdr);have HDRB:=Hi hdr;clear HV hdr;have hb4:Below wy.heap.size wy wy:=Below.refl _ _;have hL4:Af wy B (ps.map ai):=V1n;have hs4':wy.heap.size<=wy.heap.size:=Nat.le_refl _;have ho4:wy.ownsRow lo 9 1 (v2 6) d.pu.length (d.pu.map ai):=(HY.out.below hb4).rv.own 6 V2;have hlo4:lo<=wy.heap.size:=(HY.out.below hb4).rv.low.2;have hvl:d.pu.length<=m:=Az.out 6 V2;have hlim:=HM.out;have hZ1:Upd (fun b=>(v2 6).ownBlock=some b\/b=g) wy wy:=Upd.refl _ _;have hS1:Upd (fun b=>(v2 6).ownBlock=some b) wy wy:=Upd.refl _ _;have hz4:Upd (fun b=>(v2 6).ownBlock=some b\/b=g) wy wy:=Upd.of_below hb4 _;have hs4:Upd (fun b=>(v2 6).ownBlock=some b) wy wy:=Upd.of_below hb4 _;have HNV:=Hi (show ¬ ((v2 6).ownBlock=some w.heap.size\/w.heap.size=g) from fun h=>h.elim (HY.out.notv 6 V2) HY.out.notg);clear hb4;go_wp2_with fail
     refine HT.wp_region (Z:=fun w'=>Upd (fun b=>(v2 6).ownBlock=some b\/b=g) wy w') (S:=fun w'=>Upd (fun b=>(v2 6).ownBlock=some b) wy w') (st:=[12]) V1 ?_;rw [hwd];clear hwd;refine HT.tm 0 rfl hZ1 (fun _=>hS1) ?_;refine HT.tm 1 rfl hZ1 (fun _=>hS1) ?_;refine HT.tm 2 rfl hZ1 (fun _=>hS1) ?_;refine HT.tm 3 rfl hZ1 (fun _=>hS1) ?_;refine HT.tm 4 rfl hZ1 (fun _=>hS1) ?_;refine HT.ts 5 rfl (by intro v hSw;obtain ⟨hB,x5,x6,hA⟩:=HY.out.zed 6 V2 hSw;have C_:=EV.c10 hA;clear hSw hA hB;go_simp;try with_reducible rfl) hZ1 hS1 ?_;refine HT.tm 6 rfl hZ1 (fun _=>hS1) ?_;refine HT.tk 7 rfl V00 hZ1 (fun _=>hS1) ?_;refine HT.one (i:=8) V1 rfl (fun K hK=>?_);refine q0b rfl _ _ 24 rfl lo 9 i0 (.string ⟨#[]⟩) 1 16 Tryz.underlying24 HI.out HZ0.out HZ1.out HZ2.out rfl V2 (v2 6) d.pu.length _ rfl ho4 B ps.length cB (ps.map ai) rfl Vw hL4 V1E V6 V0 hlo4 ?_;intro v' w8 hown hgrow hat;obtain ⟨vA,vc,rfl⟩:=q07 hown;have aV:Upd (fun b=>(v2 6).ownBlock=some b) wy w8:=hs4.grown hgrow fun b hb _=>hb
     have bR:Upd (fun b=>(v2 6).ownBlock=some b\/b=g) wy w8:=aV.mono fun b hb=>.inl hb
     have HUP:=Hi (bR.setCell (p:=⟨g,8,none⟩) (fun _=>.inr rfl) (.slice vA (d.pu.length+ps.length) vc));have HAT:=Hi hat;have HS4:=Hi hs4';(try dsimp only);refine hK.out _ _ bR aV ?_;clear hK K;(try simp only [HT.pS]);refine HT.tm 9 rfl bR (fun _=>aV) ?_;refine HT.tm 10 rfl bR (fun _=>aV) ?_;refine HT.tm 11 rfl bR (fun _=>aV) ?_;obtain ⟨hB8,x5,x6,hG8⟩:=HY.out.zed 6 V2 aV;obtain ⟨⟨c0,c1,c2,c3,c4,c5,c6,c7,c8,c9⟩,f5,f6⟩:=EV.c10 hG8;have fz:=hG8.frozen 8;have hg8:=hG8.lt;clear hB8;refine HT.oneS (i:=12) V1 V1 rfl (fun K hK=>?_);go_simp;refine hK.out _ _ (bR.setCell (p:=⟨g,8,none⟩) (fun _=>.inr rfl) _) ?_;clear hK K;(try simp only [HT.pS]);refine HT.done V1 ?_;have hfin:=HY.out.row (d':={ d with bad:=bx,aT:=d.aT ++ ps,pu:=d.pu ++ ps }) (m':=(m+ps.length)) 6 V2 aV (by
       show w8.ownsRow lo 9 1 _ (d.pu ++ ps).length ((d.pu ++ ps).map ai);rw [List.length_append,List.map_append];exact hown) (hat.imp id fun h=>⟨_,h,hs4'⟩)
      (fun j hj hne1=>by
       have h8:j = 0\/j = 1\/j = 2\/j = 3\/j = 4\/j = 5\/j = 7:=V0;rcases h8 with rfl | rfl | rfl | rfl | rfl | rfl | rfl <;> exact ⟨rfl,rfl⟩) rfl HY.out.rv.len V0 V4a
     have HFIN:=Hi hfin;clear hown hat hfin hgrow aV bR hG8 c0 c1 c2 c3 c4 c5 c6 c7 c8 c9 f5 f6 fz hg8 hZ1 hS1;have hend:=HFIN.out.end_;rw [HDR.out] at hend;have Ac:=Hi hend;clear hend;go_wp2_with fail
     first | go_end0 | skip
     all_goals first | exact Ac.out | exact bodyPost_ret (results_none rfl _ _ _) rfl Ac.out
end Nm
end Go.Proofs.YtcgibpdjfgjldaaGreatDoor
