/- DERIVED. NmRf. By an AI agent. -/
import Derived.Test.YtcgibpdjfgjldaaGreatDoorR13
set_option maxRecDepth 100000
set_option maxHeartbeats 8000000
set_option linter.unusedVariables false
set_option linter.unusedSimpArgs false
open Go Go.ChangeShapes Go.WideShapes Go.ChangeAt Go.RowKit
namespace Go.Proofs.YtcgibpdjfgjldaaGreatDoor
namespace Nm
open Lx Args Pa Sh
structure Cp2(lo B0:Nat)(d:RS)(u1 u2:Value)(wx:World):Prop where
 o1:wx.ownsRow lo 9 1 u1 d.var.length (d.var.map ai)
 o2:wx.ownsRow lo 9 1 u2 d.aN.length (d.aN.map ai)
 ge:∀ b,u1.ownBlock=some b\/u2.ownBlock=some b->B0<=b
 d12:∀ b,u1.ownBlock=some b->u2.ownBlock≠some b
theorem AZ.belowF{w wx wy:World}{g:Nat}{v0 v1 v2 v3 v4 v7 v8 v9:Value}{d:RS}{b:Option Int}{cs:Array Value}(h:AZ w wx g v0 v1 v2 v3 v4 v7 v8 v9 d b cs)(hb:Below wx.heap.size wx wy):AZ w wy g v0 v1 v2 v3 v4 v7 v8 v9 d b cs:=
 ⟨h.ev.below hb,h.up.trans (Upd.of_below hb _),h.bx.below hb h.bx.lt⟩
theorem q4C{w:World}{lo:Nat}{e:TypeId}{size n:Nat}{v:Value}{xs:List Value}(h:w.ownsRow lo e size v n xs):∃ A c,v = .slice A n c:=q07 h
theorem q1F(l:List Bs):∀ u∈l.map ai,u.oneCell'=true:=fun u hu=>by
 obtain ⟨x,_,rfl⟩:=List.mem_map.1 hu;rfl
theorem below_grown{wy W w8:World}{u:Value}{b0:Nat}(hb:Below wy.heap.size wy W)(hg:W.grownBy w8 u.ownBlock)(hu:u.ownBlock=some b0)(h0:wy.heap.size<=b0):Below wy.heap.size wy w8:=
 ((Upd.of_below hb (fun _=>False)).grown hg (fun k hk hlt=>by rw [hu] at hk;cases hk;omega)).below (Nat.le_refl _) (fun k h=>h.elim)
theorem rst11(M:Nat)(IH:∀ z,SizeOf.sizeOf z < M->StmtP z)(w0 w:World)(N:Nat->Prop)(lo g:Nat)(v:Nat->Value)(d:RS)(m:Nat)(a:Int)(s:Bs)(n:Nat)(A:Option Addr)(cA:Nat)(B:Option Addr)(lb cB:Nat)(l:List Tz)(css:List (List Value))(hb:Below w0.heap.size w0 w)(hL:Af w0 A css.flatten)(hS:Am True w0 l css)(hl:l.length<=maxLen)(hsz:∀ (i:Nat) (x:Tz),l[i]?=some x->SizeOf.sizeOf x < M)
  (hN:∀ b,N b->w0.heap.size<=b) (hR:RV N lo w g v d) (hbad:d.bad=none) (hbd:∀ i,i < 8->rvN d i<=m) (hm:m+1+au l<=1099511627776) :
  Calls Tryz.prog 31 #[.pointer (some ⟨g,0,none⟩),aO 11 a s n A l.length cA B lb cB] w (RStP N lo w g { bW 2 l { d with bad:=bT (aB (aJ d) (aD d.fn d.many) (l.take 2)) (nmR d s) a,aN:=d.aN ++ [s] } with var:=d.var,aN:=d.aN,aT:=d.aT } (m+1+au l)):=by
 obtain ⟨i0,hi,hz⟩:=Option.map_eq_some_iff.1 infoS;have hz0:=congrArg (·.1) hz;have hz1:=congrArg (·.2.1) hz;have hz2:=congrArg (·.2.2) hz;have HI:=Hi hi;have HZ0:=Hi hz0;have HZ1:=Hi hz1;have HZ2:=Hi hz2;clear hi hz hz0 hz1 hz2;have hlm:l.length<=9223372036854775807:=hl;obtain ⟨wn,hwn,hbn,aK,hsn⟩:=dw w (nB 11 a s n A l.length cA B lb cB);have hgw:=hR.lt;have hne:¬ w.heap.size=g:=V0;have hev:=hR.ev;rw [hbad] at hev;have h0:AZ w wn g (v 0) (v 1) (v 2) (v 3) (v 4) (v 5) (v 6) (v 7) d none (nB 11 a s n A l.length cA B lb cB):=⟨hev.below hbn,Upd.of_below hbn _,aK⟩;have HW:=Hi hwn;have Ay:=Hi hb;have HRV:=Hi hR;have Az:=Hi hbd;have HM:=Hi hm;have HSN:=Hi hsn;obtain ⟨⟨e0,e1,e2,e3,e4,e5⟩,z0,z1,z2,z3,z4,z5⟩:=Aa.c6 aK;obtain ⟨ba,hblk,_⟩:=h0.ev.blk;obtain ⟨⟨c0,c1,c2,c3,c4,c5,c6,c7,c8,c9⟩,f5,f6⟩:=EV.c10 hblk;have hltn:=aK.lt;have H00:=Hi h0;have H0:=Hi (show AZ w wn g (v 0) (v 1) (v 2) (v 3) (v 4) (v 5) (v 6) (v 7) d (aB (aJ d) (aD d.fn d.many) (l.take 0)) (nB 11 a s n A l.length cA B lb cB) from V1F);have hg0:=hN g hR.bY.1;have HNN:=Hi hN;have HIH:=Hi IH;have HSZ:=Hi hsz;have HL:=Hi hL;have HS:=Hi hS;obtain ⟨A0,c0',hv0⟩:=q4C (show w.ownsRow lo 9 1 (v 0) d.aT.length (d.aT.map ai) from hR.own 0 V2);obtain ⟨A1,c1',hv1⟩:=q4C (show w.ownsRow lo 9 1 (v 1) d.var.length (d.var.map ai) from hR.own 1 V2);obtain ⟨A2,c2',hv2⟩:=q4C (show w.ownsRow lo 9 1 (v 2) d.aN.length (d.aN.map ai) from hR.own 2 V2);have HV0:=Hi hv0;have HV1:=Hi hv1;have HV2:=Hi hv2;have hin:d.aT.length<=m:=hbd 0 V2;have hva:d.var.length<=m:=hbd 1 V2;have hlo:d.aN.length<=m:=hbd 2 V2;have hm1:m+1<=1099511627776:=V0;obtain ⟨dr,hdr0⟩:∃ dr,({ bW 2 l { d with bad:=bT (aB (aJ d) (aD d.fn d.many) (l.take 2)) (nmR d s) a,aN:=d.aN ++ [s] } with var:=d.var,aN:=d.aN,aT:=d.aT }:RS)=dr:=⟨_,rfl⟩;rw [hdr0];have HDR:=Hi hdr0;obtain ⟨bx,hbx⟩:∃ b,aB (aJ d) (aD d.fn d.many) (l.take 2)=b:=⟨_,rfl⟩;have HBX:=Hi hbx;rw [hbx] at HDR;clear HM;have HM:=Hi hm1;have HMM:=Hi hm;clear hN hL hS hb h0 hwn hbn aK hsn hev hblk hR hbad hbd hm hl hsz IH hv0 hv1 hv2 hdr0 hbx;go_enter Tryz.func31,Tryz.ntmps31;go_upto_region 1 with fail
 rw [HW.out]
 go_upto_block 13 with fail
 clear e0 e1 e2 e3 e4 e5 z0 z1 z2 z3 z4 z5 c0 c1 c2 c3 c4 c5 c6 c7 c8 c9 f5 f6
 go_cut [12] from 371 to 388 (fun s12 wx=>Hid (AZ w wx g (v 0) (v 1) (v 2) (v 3) (v 4) (v 5) (v 6) (v 7) d bx (nB 11 a s n A l.length cA B lb cB)))
 case first=>as_aux_lemma=>
  go_wp2_with fail
  go_loopw [12] (fun vi wr=>∃ i:Nat,i<=l.length/\i<=2/\vi = .int .i64 (i:Int)/\Hid (AZ w wr g (v 0) (v 1) (v 2) (v 3) (v 4) (v 5) (v 6) (v 7) d (aB (aJ d) (aD d.fn d.many) (l.take i)) (nB 11 a s n A l.length cA B lb cB))) (fun vi _=>l.length - (intOf vi).toNat)
  case atStart=>exact ⟨0,V0,V0,rfl,H0⟩
  case round=>
   clear H0;obtain ⟨i,hi,hi2,rfl,Hr⟩:=hrel;obtain ⟨⟨e0,e1,e2,e3,e4,e5⟩,z0,z1,z2,z3,z4,z5⟩:=Aa.c6 Hr.out.bx;by_cases hlt:i < l.length
   ·by_cases h2:i < 2
    ·obtain ⟨x,hx⟩:∃ x,l[i]?=some x:=⟨_,List.getElem?_eq_getElem hlt⟩;have hlt2:(i:Int) < 2:=V0;have HBr:=Hi (Ay.out.trans (Hr.out.up.below Ay.out.size fun b hb=>V0));obtain ⟨b2',o2,k3,a3,s3,n3,A3',la3,cA3,B3,lb3,cB3,rfl,hTx,hb3,g0,g1,g2,g3,g4,g5⟩:=q0T HBr.out HL.out HS.out hx;have HC:=Hi (expr_ (SizeOf.sizeOf x+1) x (Nat.lt_succ_self _) w0 wr g _ _ _ _ _ _ _ _ d _ k3 a3 s3 n3 A3' la3 cA3 B3 lb3 cB3 (q4Y hTx) HBr.out hg0 Hr.out.ev);rw [<-q1b _ _ l i x hx] at HC;clear hTx hx;go_wp2_with fail
     refine HC.out.mono ?_;rintro e w2 ⟨rfl,hE2,hu2⟩;have H3:=Hi (show AZ w w2 g (v 0) (v 1) (v 2) (v 3) (v 4) (v 5) (v 6) (v 7) d (aB (aJ d) (aD d.fn d.many) (l.take (i+1))) (nB 11 a s n (some ⟨b2',o2,none⟩) l.length cA B lb cB) from ⟨hE2,Hr.out.up.trans hu2,Hr.out.bx.upd hu2 hne⟩);clear hE2 hu2 HC e0 e1 e2 e3 e4 e5 z0 z1 z2 z3 z4 z5 g0 g1 g2 g3 g4 g5;go_wp2_with fail
     go_roundw
     case rel=>exact ⟨i+1,V0,V0,V7,H3⟩
     case measure=>simp [intOf];omega
    ·have hlt2:¬ (i:Int) < 2:=by omega
     have HE:=Hi (show AZ w wr g (v 0) (v 1) (v 2) (v 3) (v 4) (v 5) (v 6) (v 7) d bx (nB 11 a s n A l.length cA B lb cB) from by
      rw [<-HBX.out];have h:=Hr.out;rw [show i = 2 from V0] at h;exact h)
     clear Hr;go_wp2_with fail
     go_meet
     exact HE
   ·have HE:=Hi (show AZ w wr g (v 0) (v 1) (v 2) (v 3) (v 4) (v 5) (v 6) (v 7) d bx (nB 11 a s n A l.length cA B lb cB) from by
     rw [<-HBX.out];have h:=Hr.out;rw [List.take_of_length_le V0] at h;rw [List.take_of_length_le V0];exact h)
    clear Hr;go_wp2_with fail
    go_meet
    exact HE
 case rest=>
  clear H0 H00;generalize wc=wA at hcut ⊢;have hz0:=hcut.out;have hdr:Below wA.heap.size wA wA.drew:=Below.drew (Below.refl _ _);obtain ⟨wz,hwd⟩:∃ u,wA.drew=u:=⟨_,rfl⟩;rw [hwd] at hdr;have hz:=hz0.belowF hdr;have aa:=hz.ez;have HZZ:=Hi hz;have HI0:=Hi (q1L s wz g _ _ hz.ev.aT);have HI1:=Hi (q1L s wz g _ _ hz.ev.var);have HI2:=Hi (q1L s wz g _ _ hz.ev.aN);have HI3:=Hi (q1L s wz g _ _ hz.ev.fn);have AA:Hid (∀ (wx:World) (q:Bool),AZ w wx g (v 0) (v 1) (v 2) (v 3) (v 4) (v 5) (v 6) (v 7) d bx (nB 11 a s n A l.length cA B lb cB)->Calls Tryz.prog 64 #[.pointer (some ⟨g,0,none⟩),.bool q,aO 11 a s n A l.length cA B lb cB] wx fun e w'=>e = .returned (.tuple #[])/\AZ w w' g (v 0) (v 1) (v 2) (v 3) (v 4) (v 5) (v 6) (v 7) d (bT bx q a) (nB 11 a s n A l.length cA B lb cB)):=Hi fun wx q hv=>hv.bad hne q
  obtain ⟨p0,hp0⟩:∃ p,d.aT.contains s=p:=⟨_,rfl⟩;obtain ⟨p1,hp1⟩:∃ p,d.var.contains s=p:=⟨_,rfl⟩;obtain ⟨p2,hp2⟩:∃ p,d.aN.contains s=p:=⟨_,rfl⟩;obtain ⟨p3,hp3⟩:∃ p,d.fn.contains s=p:=⟨_,rfl⟩;have Bb:=Hi hp0;have Be:=Hi hp1;have Ar:=Hi hp2;have HP3:=Hi hp3;rw [hp0] at HI0;rw [hp1] at HI1;rw [hp2] at HI2;rw [hp3] at HI3;clear hp0 hp1 hp2 hp3 hdr hz hz0 hcut;go_upto_region 50 with fail
  go_cut [] from 389 to 425 (fun wx=>Hid (AZ w wx g (v 0) (v 1) (v 2) (v 3) (v 4) (v 5) (v 6) (v 7) d (bT bx (p0 || p1 || p2 || p3) a) (nB 11 a s n A l.length cA B lb cB)))
  case first=>as_aux_lemma=>
   go_wp2_with fail
   refine HT.wp_region (Z:=fun w'=>EZ w w' g (v 0) (v 1) (v 2) (v 3) (v 4) (v 5) (v 6) (v 7) (nB 11 a s n A l.length cA B lb cB)) (S:=fun _=>True) (st:=[]) V1 ?_;rw [hwd];clear hwd;refine HT.m 0 aa ?_;refine HT.m 1 aa ?_;refine HT.m 2 aa ?_;refine HT.m 3 aa ?_;refine HT.k 4 rfl V5 aa ?_;refine HT.m 5 aa ?_;refine HT.k 6 rfl Vi aa ?_;refine HT.k 35 rfl Vi aa ?_;refine HT.one (i:=7) V1 rfl (fun K hK=>?_);go_simp;refine HI0.out.mono ?_;rintro e w' ⟨rfl,rfl⟩;(try dsimp only);refine hK.out _ _ aa trivial ?_;clear hK K;(try simp only [HT.pS]);cases p0 with
   | true=>as_aux_lemma=>
    refine HT.m 8 aa ?_;refine HT.s 9 aa ?_;refine HT.s 10 aa ?_;refine HT.s 11 aa ?_;refine HT.s 12 aa ?_;refine HT.s 13 aa ?_;refine HT.s 14 aa ?_;refine HT.s 15 aa ?_;exact V2Z
   | false=>as_aux_lemma=>
    refine HT.m 8 aa ?_;refine HT.m 9 aa ?_;refine HT.m 10 aa ?_;refine HT.m 11 aa ?_;refine HT.k 12 rfl V5 aa ?_;refine HT.m 13 aa ?_;refine HT.k 14 rfl Vi aa ?_;refine HT.one (i:=15) V1 rfl (fun K hK=>?_);go_simp;refine HI1.out.mono ?_;rintro e w' ⟨rfl,rfl⟩;(try dsimp only);refine hK.out _ _ aa trivial ?_;clear hK K;(try simp only [HT.pS]);cases p1 with
    | true=>as_aux_lemma=>
     exact V2Z
    | false=>as_aux_lemma=>
     refine HT.m 16 aa ?_;refine HT.m 17 aa ?_;refine HT.m 18 aa ?_;refine HT.m 19 aa ?_;refine HT.m 20 aa ?_;refine HT.k 21 rfl V5 aa ?_;refine HT.m 22 aa ?_;refine HT.k 23 rfl Vi aa ?_;refine HT.one (i:=24) V1 rfl (fun K hK=>?_);go_simp;refine HI2.out.mono ?_;rintro e w' ⟨rfl,rfl⟩;(try dsimp only);refine hK.out _ _ aa trivial ?_;clear hK K;(try simp only [HT.pS]);cases p2 with
     | true=>as_aux_lemma=>
      exact V2u
     | false=>as_aux_lemma=>
      refine HT.m 25 aa ?_;refine HT.m 26 aa ?_;refine HT.m 27 aa ?_;refine HT.m 28 aa ?_;refine HT.m 29 aa ?_;refine HT.k 30 rfl V5 aa ?_;refine HT.m 31 aa ?_;refine HT.k 32 rfl Vi aa ?_;refine HT.one (i:=33) V1 rfl (fun K hK=>?_);go_simp;refine HI3.out.mono ?_;rintro e w' ⟨rfl,rfl⟩;(try dsimp only);refine hK.out _ _ aa trivial ?_;clear hK K;(try simp only [HT.pS]);refine HT.m 34 aa ?_;refine HT.one (i:=36) V1 rfl (fun K hK=>?_);go_simp;refine (AA.out _ p3 HZZ.out).mono ?_;exact Vq
  case rest=>
   have hE:AZ w wc g (v 0) (v 1) (v 2) (v 3) (v 4) (v 5) (v 6) (v 7) d (bT bx (nmR d s) a) (nB 11 a s n A l.length cA B lb cB):=by
    show AZ w wc g (v 0) (v 1) (v 2) (v 3) (v 4) (v 5) (v 6) (v 7) d (bT bx (((d.aT.contains s || d.var.contains s) || d.aN.contains s) || d.fn.contains s) a) (nB 11 a s n A l.length cA B lb cB);rw [Bb.out,Be.out,Ar.out,HP3.out];exact hcut.out
   have HV:=Hi (RvI.of_ea HRV.out Az.out hE);obtain ⟨by_,hby⟩:∃ b,bT bx (nmR d s) a=b:=⟨_,rfl⟩;rw [hby] at HV HDR;clear hby hE hcut AA HZZ aa HI0 HI1 HI2 HI3 hwd;generalize wc=wB at HV ⊢;have HGB:=Hi (show g < wB.heap.size from by have:=HV.out.up.size;omega);have HVB:=Hi (show ∀ i,i < 8->∀ b,(v i).ownBlock=some b->b < wB.heap.size from fun i hi b hb=>(av (HV.out.rv.own i hi) b hb).2);have HWB:=Hi HV.out.up.size;go_upto_region 51 with fail
   go_cut [13,14] from 426 to 437 (fun s13 s14 wx=>∃ u1 u2,u1=s13/\u2=s14/\Hid (RvI N lo w g v (nB 11 a s n A l.length cA B lb cB) { d with bad:=by_ } m wx)/\Hid (Cp2 lo wB.heap.size d u1 u2 wx)/\Hid (wB.heap.size<=wx.heap.size))
   case first=>as_aux_lemma=>
    have hdr:Below wB.heap.size wB wB.drew:=Below.drew (Below.refl _ _);obtain ⟨wy,hwd⟩:∃ u,wB.drew=u:=⟨_,rfl⟩;rw [hwd] at hdr;have HYS:=Hi (show wy.heap.size=wB.heap.size from by rw [<-hwd];rfl);have HY:=Hi (HV.out.below hdr);have hlow:lo<=wy.heap.size:=HY.out.rv.low.2;have hlim:=HM.out;have hby:Below wy.heap.size wy wy:=Below.refl _ _;clear HV hdr;go_wp2_with fail
    refine HT.wp_region (Z:=fun w'=>Below wy.heap.size wy w') (S:=fun _=>True) (st:=[]) V1 ?_;rw [hwd];clear hwd;refine HT.m 1 hby ?_;refine HT.m 2 hby ?_;refine HT.m 3 hby ?_;refine HT.k 4 rfl V2T hby ?_;refine HT.m 7 hby ?_;refine HT.m 8 hby ?_;refine HT.m 9 hby ?_;refine HT.k 10 rfl V2T hby ?_;refine HT.two (i:=0) (j:=6) V1 rfl rfl (fun K hK=>?_) (fun K hK=>?_)
    ·obtain ⟨W0,hW0⟩:∃ u,World.alloc wy (.cells #[] 9)=u:=⟨_,rfl⟩;go_simp;(try rw [hW0]);have hbl0:Below wy.heap.size wy W0:=V4b;have hb0:Below wy.heap.size wy W0:=hby.trans (hbl0.mono hby.size);have ha0:wy.heap.size<=wy.heap.size:=hby.size;have hl0:lo<=wy.heap.size:=V0;have HS0:=Hi (show W0.heap.size=wy.heap.size+1 by rw [<-hW0];simp);obtain ⟨a0,ha0'⟩:∃ b,wy.heap.size=b:=⟨_,rfl⟩;have ho0:W0.ownsRow lo 9 1 (.slice (some ⟨wy.heap.size,0,none⟩) 0 0) 0 []:=by rw [<-hW0];exact cz wy hl0 _ _
     rw [ha0'] at ho0;(try rw [ha0']);(try dsimp only);refine hK.out _ _ hb0 trivial ?_;clear hK K;(try simp only [HT.pS]);refine HT.two (i:=5) (j:=6) V1 rfl rfl (fun K hK=>?_) (fun K hK=>?_)
     ·have hLw5:Af W0 A1 (d.var.map ai):=by
       exact V3f
      refine q0b rfl _ _ 24 rfl lo 9 i0 (.string ⟨#[]⟩) 1 16 Tryz.underlying24 HI.out HZ0.out HZ1.out HZ2.out rfl V2 (.slice (some ⟨a0,0,none⟩) 0 0) 0 [] rfl ho0 A1 d.var.length c1' (d.var.map ai) rfl Vw hLw5 (q1F _) V6 V0 (by have:=hb0.size;omega) ?_;intro u5 W5 hown5 hgrow5 hat5;rw [Nat.zero_add,List.nil_append] at hown5;have ho5:=hown5;have hgd5:W0.heap.size<=W5.heap.size:=hgrow5.size;have hb5:Below wy.heap.size wy W5:=below_grown (b0:=a0) hb0 hgrow5 rfl V0;obtain ⟨z5,hz5⟩:∃ b,W0.heap.size=b:=⟨_,rfl⟩;rw [hz5] at hat5;have hat5':u5.ownBlock=some a0\/u5.ownBlock=some z5:=hat5;have hlt5:=av hown5;clear hown5;(try dsimp only);refine hK.out _ _ hb5 trivial ?_;clear hK K;(try simp only [HT.pS]);obtain ⟨W6,hW6⟩:∃ u,World.alloc W5 (.cells #[] 9)=u:=⟨_,rfl⟩;refine HT.one (i:=6) V1 rfl (fun K hK=>?_);go_simp;(try rw [hW6]);have hbl6:Below W5.heap.size W5 W6:=V1G;have hb6:Below wy.heap.size wy W6:=hb5.trans (hbl6.mono hb5.size);have ha6:wy.heap.size<=W5.heap.size:=hb5.size;have hl6:lo<=W5.heap.size:=V0;have HS6:=Hi (show W6.heap.size=W5.heap.size+1 by rw [<-hW6];simp);obtain ⟨a6,ha6'⟩:∃ b,W5.heap.size=b:=⟨_,rfl⟩;have ho6:W6.ownsRow lo 9 1 (.slice (some ⟨W5.heap.size,0,none⟩) 0 0) 0 []:=by rw [<-hW6];exact cz W5 hl6 _ _
      rw [ha6'] at ho6;(try rw [ha6']);have ho5_:=ae ho5 (Upd.of_below hbl6 fun _=>False) fun _ _ h=>h
      clear ho5;have ho5:=ho5_;clear ho5_;(try dsimp only);refine hK.out _ _ hb6 trivial ?_;clear hK K;(try simp only [HT.pS]);refine HT.one (i:=11) V1 rfl (fun K hK=>?_);have hLw11:Af W6 A2 (d.aN.map ai):=by
       have h:W6.ownsRow lo 9 1 (v 2) d.aN.length (d.aN.map ai):=(HY.out.below hb6).rv.own 2 V2;rw [HV2.out] at h;exact q0o h
      refine q0b rfl _ _ 24 rfl lo 9 i0 (.string ⟨#[]⟩) 1 16 Tryz.underlying24 HI.out HZ0.out HZ1.out HZ2.out rfl V2 (.slice (some ⟨a6,0,none⟩) 0 0) 0 [] rfl ho6 A2 d.aN.length c2' (d.aN.map ai) rfl Vw hLw11 (q1F _) V6 V0 (by have:=hb6.size;omega) ?_;intro u11 W11 hown11 hgrow11 hat11;rw [Nat.zero_add,List.nil_append] at hown11;have ho11:=hown11;have hgd11:W6.heap.size<=W11.heap.size:=hgrow11.size;have hb11:Below wy.heap.size wy W11:=below_grown (b0:=a6) hb6 hgrow11 rfl V0;obtain ⟨z11,hz11⟩:∃ b,W6.heap.size=b:=⟨_,rfl⟩;rw [hz11] at hat11;have hat11':u11.ownBlock=some a6\/u11.ownBlock=some z11:=hat11;have hlt11:=av hown11;have ho5_:=ae ho5 ((Upd.refl (fun b=>b=a6) W6).grown hgrow11 fun k hk _=>(Option.some.inj hk).symm) (fun b hb e=>by
       have q0:=HS0.out;have q6:=HS6.out;have q5:=(hlt5 b hb).2;rcases hat5' with h | h <;> (rw [h] at hb;cases hb;omega))
      clear ho5;have ho5:=ho5_;clear ho5_;clear hown11;(try dsimp only);refine hK.out _ _ hb11 trivial ?_;clear hK K;(try simp only [HT.pS]);refine HT.one (i:=12) V1 rfl (fun K hK=>?_);go_simp;(try dsimp only);refine hK.out _ _ hb11 trivial ?_;clear hK K;(try simp only [HT.pS]);refine HT.one (i:=13) V1 rfl (fun K hK=>?_);go_simp;(try dsimp only);refine hK.out _ _ hb11 trivial ?_;clear hK K;(try simp only [HT.pS]);refine HT.done V1 ?_;have HQ:=Hi (HY.out.below hb11);have hys0:=HYS.out;have q00:=HS0.out;have q66:=HS6.out;have hge:∀ b,u5.ownBlock=some b\/u11.ownBlock=some b->wB.heap.size<=b:=fun b hb=>by
       rcases hb with hb | hb
       ·rcases hat5' with h | h <;> (rw [h] at hb;cases hb;omega)
       ·rcases hat11' with h | h <;> (rw [h] at hb;cases hb;omega)
      have hd:∀ b,u5.ownBlock=some b->u11.ownBlock≠some b:=fun b hb hb2=>by
       have:=(hlt5 b hb).2;have hq5:=hat5';have hq11:=hat11';rw [hb] at hq5;rw [hb2] at hq11;rcases hq5 with h | h <;> rcases hq11 with h' | h' <;> (cases h;cases h';omega)
      have hys:=HYS.out;have q0:=HS0.out;have q6:=HS6.out;have HSZB:=Hi (show wB.heap.size<=W11.heap.size from by have:=hb11.size;omega);have HCP:=Hi (show Cp2 lo wB.heap.size d u5 u11 W11 from ⟨ho5,ho11,hge,hd⟩);go_wp2_with fail
      go_meet
      exact ⟨_,_,rfl,rfl,HQ,HCP,HSZB⟩
     ·obtain ⟨W6,hW6⟩:∃ u,World.alloc W0 (.cells #[] 9)=u:=⟨_,rfl⟩;go_simp;(try rw [hW6]);have hbl6:Below W0.heap.size W0 W6:=V1G;have hb6:Below wy.heap.size wy W6:=hb0.trans (hbl6.mono hb0.size);have ha6:wy.heap.size<=W0.heap.size:=hb0.size;have hl6:lo<=W0.heap.size:=V0;have HS6:=Hi (show W6.heap.size=W0.heap.size+1 by rw [<-hW6];simp);obtain ⟨a6,ha6'⟩:∃ b,W0.heap.size=b:=⟨_,rfl⟩;have ho6:W6.ownsRow lo 9 1 (.slice (some ⟨W0.heap.size,0,none⟩) 0 0) 0 []:=by rw [<-hW6];exact cz W0 hl6 _ _
      rw [ha6'] at ho6;(try rw [ha6']);have ho0_:=ae ho0 (Upd.of_below hbl6 fun _=>False) fun _ _ h=>h
      clear ho0;have ho0:=ho0_;clear ho0_;(try dsimp only);refine hK.out _ _ hb6 trivial ?_;clear hK K;(try simp only [HT.pS]);refine HT.one (i:=5) V1 rfl (fun K hK=>?_);have hLw5:Af W6 A1 (d.var.map ai):=by
       have h:W6.ownsRow lo 9 1 (v 1) d.var.length (d.var.map ai):=(HY.out.below hb6).rv.own 1 V2;rw [HV1.out] at h;exact q0o h
      refine q0b rfl _ _ 24 rfl lo 9 i0 (.string ⟨#[]⟩) 1 16 Tryz.underlying24 HI.out HZ0.out HZ1.out HZ2.out rfl V2 (.slice (some ⟨a0,0,none⟩) 0 0) 0 [] rfl ho0 A1 d.var.length c1' (d.var.map ai) rfl Vw hLw5 (q1F _) V6 V0 (by have:=hb6.size;omega) ?_;intro u5 W5 hown5 hgrow5 hat5;rw [Nat.zero_add,List.nil_append] at hown5;have ho5:=hown5;have hgd5:W6.heap.size<=W5.heap.size:=hgrow5.size;have hb5:Below wy.heap.size wy W5:=below_grown (b0:=a0) hb6 hgrow5 rfl V0;obtain ⟨z5,hz5⟩:∃ b,W6.heap.size=b:=⟨_,rfl⟩;rw [hz5] at hat5;have hat5':u5.ownBlock=some a0\/u5.ownBlock=some z5:=hat5;have hlt5:=av hown5;have ho6_:=ae ho6 ((Upd.refl (fun b=>b=a0) W6).grown hgrow5 fun k hk _=>(Option.some.inj hk).symm) (fun b hb e=>by
       exact V46)
      exact V2c
    ·obtain ⟨W6,hW6⟩:∃ u,World.alloc wy (.cells #[] 9)=u:=⟨_,rfl⟩;go_simp;(try rw [hW6]);have hbl6:Below wy.heap.size wy W6:=V1G;have hb6:Below wy.heap.size wy W6:=hby.trans (hbl6.mono hby.size);have ha6:wy.heap.size<=wy.heap.size:=hby.size;have hl6:lo<=wy.heap.size:=V0;have HS6:=Hi (show W6.heap.size=wy.heap.size+1 by rw [<-hW6];simp);obtain ⟨a6,ha6'⟩:∃ b,wy.heap.size=b:=⟨_,rfl⟩;have ho6:W6.ownsRow lo 9 1 (.slice (some ⟨wy.heap.size,0,none⟩) 0 0) 0 []:=by rw [<-hW6];exact cz wy hl6 _ _
     rw [ha6'] at ho6;(try rw [ha6']);(try dsimp only);refine hK.out _ _ hb6 trivial ?_;clear hK K;(try simp only [HT.pS]);obtain ⟨W0,hW0⟩:∃ u,World.alloc W6 (.cells #[] 9)=u:=⟨_,rfl⟩;refine HT.one (i:=0) V1 rfl (fun K hK=>?_);go_simp;(try rw [hW0]);have hbl0:Below W6.heap.size W6 W0:=V4b;have hb0:Below wy.heap.size wy W0:=hb6.trans (hbl0.mono hb6.size);have ha0:wy.heap.size<=W6.heap.size:=hb6.size;have hl0:lo<=W6.heap.size:=V0;have HS0:=Hi (show W0.heap.size=W6.heap.size+1 by rw [<-hW0];simp);obtain ⟨a0,ha0'⟩:∃ b,W6.heap.size=b:=⟨_,rfl⟩;have ho0:W0.ownsRow lo 9 1 (.slice (some ⟨W6.heap.size,0,none⟩) 0 0) 0 []:=by rw [<-hW0];exact cz W6 hl0 _ _
     rw [ha0'] at ho0;(try rw [ha0']);have ho6_:=ae ho6 (Upd.of_below hbl0 fun _=>False) fun _ _ h=>h
     clear ho6;have ho6:=ho6_;clear ho6_;(try dsimp only);refine hK.out _ _ hb0 trivial ?_;clear hK K;(try simp only [HT.pS]);refine HT.one (i:=5) V1 rfl (fun K hK=>?_);have hLw5:Af W0 A1 (d.var.map ai):=by
      exact V3f
     refine q0b rfl _ _ 24 rfl lo 9 i0 (.string ⟨#[]⟩) 1 16 Tryz.underlying24 HI.out HZ0.out HZ1.out HZ2.out rfl V2 (.slice (some ⟨a0,0,none⟩) 0 0) 0 [] rfl ho0 A1 d.var.length c1' (d.var.map ai) rfl Vw hLw5 (q1F _) V6 V0 (by have:=hb0.size;omega) ?_;intro u5 W5 hown5 hgrow5 hat5;rw [Nat.zero_add,List.nil_append] at hown5;have ho5:=hown5;have hgd5:W0.heap.size<=W5.heap.size:=hgrow5.size;have hb5:Below wy.heap.size wy W5:=below_grown (b0:=a0) hb0 hgrow5 rfl V0;obtain ⟨z5,hz5⟩:∃ b,W0.heap.size=b:=⟨_,rfl⟩;rw [hz5] at hat5;have hat5':u5.ownBlock=some a0\/u5.ownBlock=some z5:=hat5;have hlt5:=av hown5;have ho6_:=ae ho6 ((Upd.refl (fun b=>b=a0) W0).grown hgrow5 fun k hk _=>(Option.some.inj hk).symm) (fun b hb e=>by
      exact V46)
     exact V2c
   case rest=>
    obtain ⟨u1,u2,rfl,rfl,HVc,HCP,HWBD⟩:=hcut;generalize wc=wD at HVc HCP HWBD ⊢;obtain ⟨wn2,hwn2⟩:∃ u,World.alloc wD (.cells #[] 9)=u:=⟨_,rfl⟩;have hbn2:Below wD.heap.size wD wn2:=by rw [<-hwn2];exact (Below.refl _ _).alloc (Nat.le_refl _) _
    have hlow:lo<=wD.heap.size:=HVc.out.rv.low.2;have HOE:=Hi (show wn2.ownsRow lo 9 1 (.slice (some ⟨wD.heap.size,0,none⟩) 0 0) 0 [] from by rw [<-hwn2];exact cz wD hlow _ _);have hVn:=HVc.out.below hbn2;have HL0:=Hi (show Af wn2 A0 (d.aT.map ai) from by
     have h:wn2.ownsRow lo 9 1 (v 0) d.aT.length (d.aT.map ai):=hVn.rv.own 0 V2;rw [HV0.out] at h;exact q0o h)
    obtain ⟨bq,hbq,_⟩:=HVc.out.rv.blk;rw [HV0.out] at hbq;obtain ⟨⟨c0,c1,c2,c3,c4,c5,c6,c7,c8,c9⟩,f5,f6⟩:=EV.c10 hbq;have HWN2:=Hi hwn2;have HBN2:=Hi hbn2;have hlow2:lo<=wn2.heap.size:=Nat.le_trans hlow hbn2.size;have hlim:=HM.out;have hgn:=hbq.lt;clear hwn2 hbn2 hVn hbq hlow;go_upto_region 53 with (at_builtin;rw [HWN2.out];refine q5x rfl _ _ 24 rfl lo 9 i0 (.string ⟨#[]⟩) 1 16 Tryz.underlying24 HI.out HZ0.out HZ1.out HZ2.out rfl V2 _ 0 [] rfl HOE.out A0 d.aT.length c0' (d.aT.map ai) rfl Vw HL0.out (q1F _) V6 V0 hlow2 ?_;intro u0 w8 hown hgrow hat;have HO:=Hi hown;have HG8:=Hi hgrow;have HAT:=Hi hat;clear hown hgrow hat)
    clear c0 c1 c2 c3 c4 c5 c6 c7 c8 c9 f5 f6 hgn hlow2;have hown:=HO.out;rw [Nat.zero_add,List.nil_append] at hown;have hb8:=below_grown HBN2.out HG8.out rfl (Nat.le_refl _);have hat:u0.ownBlock=some wD.heap.size\/u0.ownBlock=some wn2.heap.size:=HAT.out;have hn2:=HBN2.out.size;have HV:=Hi (HVc.out.below hb8);have HCC:=Hi (show Cp3 lo wB.heap.size d u1 u2 u0 w8 from by
     have hc:=HCP.out;have hu:=Upd.of_below hb8 fun _=>False
     have hx:∀ b,u0.ownBlock=some b->wD.heap.size<=b:=fun b hb=>by
      rcases hat with h | h <;> (rw [h] at hb;cases hb;omega)
     have hw:=HWBD.out;refine ⟨ae hc.o1 hu fun _ _ h=>h,ae hc.o2 hu fun _ _ h=>h,hown,fun b hb=>?_,hc.d12,fun b hb h0=>?_,fun b hb h0=>?_⟩
     ·rcases hb with hb | hb | hb
      ·exact hc.ge b (.inl hb)
      ·exact hc.ge b (.inr hb)
      ·have:=hx b hb;omega
     ·have:=hx b h0;have:=(av hc.o1 b hb).2;omega
     ·have:=hx b h0;have:=(av hc.o2 b hb).2;omega)
    clear hown hb8 hat hn2 HO HG8 HAT HVc HCP HOE HL0 HWN2 HBN2
    go_cut [] from 444 to 454 (fun wx=>∃ v4,Hid (RvI N lo w g v4 (nB 11 a s n A l.length cA B lb cB) { d with bad:=by_,aN:=d.aN ++ [s] } (m+1) wx)/\Hid (Cp3 lo wB.heap.size d u1 u2 u0 wx)/\Hid (∀ b,RvB g v4 b->b < wB.heap.size\/∀ c,u1.ownBlock=some c\/u2.ownBlock=some c\/u0.ownBlock=some c->c≠b))
    case first=>as_aux_lemma=>
     have HDUM:=Hi True.intro;have hdr:Below w8.heap.size w8 w8.drew:=Below.drew (Below.refl _ _);obtain ⟨wy,hwd⟩:∃ u,w8.drew=u:=⟨_,rfl⟩;rw [hwd] at hdr;have HY:=Hi (HV.out.below hdr);have HDRB:=Hi hdr;clear HV hdr;obtain ⟨w4,hw4,hb4,-⟩:=aS wy #[.string ⟨s.toArray⟩] 9;have hL4:Af w4 (some ⟨wy.heap.size,0,none⟩) ([ai s]):=by rw [<-hw4];exact q06 _ _ ([ai s])
     have hs4':wy.heap.size<=w4.heap.size:=hb4.size;have ho4:w4.ownsRow lo 9 1 (v 2) d.aN.length (d.aN.map ai):=(HY.out.below hb4).rv.own 2 V2;have hlo4:lo<=w4.heap.size:=(HY.out.below hb4).rv.low.2;have hvl:d.aN.length<=m:=Az.out 2 V2;have hlim:=HM.out;have hZ1:Upd (fun b=>(v 2).ownBlock=some b\/b=g) wy wy:=Upd.refl _ _;have hS1:Upd (fun b=>(v 2).ownBlock=some b) wy wy:=Upd.refl _ _;have hz4:Upd (fun b=>(v 2).ownBlock=some b\/b=g) wy w4:=Upd.of_below hb4 _;have hs4:Upd (fun b=>(v 2).ownBlock=some b) wy w4:=Upd.of_below hb4 _;have HNV:=Hi (show ¬ ((v 2).ownBlock=some w.heap.size\/w.heap.size=g) from fun h=>h.elim (HY.out.notv 2 V2) HY.out.notg);clear hb4;go_wp2_with fail
     refine HT.wp_region (Z:=fun w'=>Upd (fun b=>(v 2).ownBlock=some b\/b=g) wy w') (S:=fun w'=>Upd (fun b=>(v 2).ownBlock=some b) wy w') (st:=[11]) V1 ?_;rw [hwd];clear hwd;refine HT.tm 0 rfl hZ1 (fun _=>hS1) ?_;refine HT.tm 1 rfl hZ1 (fun _=>hS1) ?_;refine HT.tm 2 rfl hZ1 (fun _=>hS1) ?_;refine HT.tm 3 rfl hZ1 (fun _=>hS1) ?_;refine HT.ts 4 rfl (by intro v hSw;obtain ⟨hB,x5,x6,hA⟩:=HY.out.zed 2 V2 hSw;have C_:=EV.c10 hA;clear hSw hA hB;go_simp;try with_reducible rfl) hZ1 hS1 ?_;refine HT.tm 5 rfl hZ1 (fun _=>hS1) ?_;refine HT.tk 6 rfl V00 hZ1 (fun _=>hS1) ?_;refine HT.one (i:=7) V1 rfl (fun K hK=>?_);go_simp;(try rw [hw4]);(try dsimp only);refine hK.out _ _ hz4 hs4 ?_;clear hK K;(try simp only [HT.pS]);refine HT.one (i:=8) V1 rfl (fun K hK=>?_);refine q0b rfl _ _ 24 rfl lo 9 i0 (.string ⟨#[]⟩) 1 16 Tryz.underlying24 HI.out HZ0.out HZ1.out HZ2.out rfl V2 (v 2) d.aN.length _ rfl ho4 (some ⟨wy.heap.size,0,none⟩) 1 1 ([ai s]) rfl rfl hL4 V02 V6 V0 hlo4 ?_;intro v' w8 hown hgrow hat;obtain ⟨vA,vc,rfl⟩:=q07 hown;have aV:Upd (fun b=>(v 2).ownBlock=some b) wy w8:=hs4.grown hgrow fun b hb _=>hb
     have bR:Upd (fun b=>(v 2).ownBlock=some b\/b=g) wy w8:=aV.mono fun b hb=>.inl hb
     have HUP:=Hi (bR.setCell (p:=⟨g,2,none⟩) (fun _=>.inr rfl) (.slice vA (d.aN.length+1) vc));have HAT:=Hi hat;have HS4:=Hi hs4';(try dsimp only);refine hK.out _ _ bR aV ?_;clear hK K;(try simp only [HT.pS]);refine HT.tm 9 rfl bR (fun _=>aV) ?_;refine HT.tm 10 rfl bR (fun _=>aV) ?_;obtain ⟨hB8,x5,x6,hG8⟩:=HY.out.zed 2 V2 aV;obtain ⟨⟨c0,c1,c2,c3,c4,c5,c6,c7,c8,c9⟩,f5,f6⟩:=EV.c10 hG8;have fz:=hG8.frozen 2;have hg8:=hG8.lt;clear hB8;refine HT.oneS (i:=11) V1 V1 rfl (fun K hK=>?_);go_simp;refine hK.out _ _ (bR.setCell (p:=⟨g,2,none⟩) (fun _=>.inr rfl) _) ?_;clear hK K;(try simp only [HT.pS]);refine HT.done V1 ?_;have hfin:=HY.out.row (d':={ d with bad:=by_,aN:=d.aN ++ [s] }) (m':=(m+1)) 2 V2 aV (by
       show w8.ownsRow lo 9 1 _ (d.aN ++ [s]).length ((d.aN ++ [s]).map ai);rw [List.length_append,List.map_append];exact hown) (hat.imp id fun h=>⟨_,h,hs4'⟩)
      (fun j hj hne1=>by
       have h8:j = 0\/j = 1\/j = 3\/j = 4\/j = 5\/j = 6\/j = 7:=V0;rcases h8 with rfl | rfl | rfl | rfl | rfl | rfl | rfl <;> exact ⟨rfl,rfl⟩) rfl HY.out.rv.len V0 (by show (d.aN ++ [s]).length<=_;rw [List.length_append];exact Nat.succ_le_succ hvl)
     have HFIN:=Hi hfin;clear hown hat hfin hgrow aV bR hG8 c0 c1 c2 c3 c4 c5 c6 c7 c8 c9 f5 f6 fz hg8 hZ1 hS1;have hcy:=HCC.out.upd (Upd.of_below HDRB.out fun _=>False) fun _ _ _ h=>h
     have HC9:=Hi (hcy.upd HUP.out fun b hb hlt e=>by
      rcases e with e | e
      ·have:=HVB.out 2 V2 b e;omega
      ·have:=HGB.out;omega)
     have HX9:=Hi (show ∀ b,RvB g (cK v 2 (Value.slice vA (d.aN.length+1) vc)) b->b < wB.heap.size\/∀ c,u1.ownBlock=some c\/u2.ownBlock=some c\/u0.ownBlock=some c->c≠b from fun b hb=>by
      rcases hb with rfl | ⟨i,hi,hb⟩
      ·exact .inl HGB.out
      ·unfold cK at hb;by_cases h2:i = 2
       ·rw [if_pos h2] at hb;rcases HAT.out with h | h
        ·rw [h] at hb;exact .inl (HVB.out 2 V2 b hb)
        ·rw [h] at hb;have hbb:w4.heap.size=b:=Option.some.inj hb;refine .inr fun c hc e=>?_
         have:=hcy.lt c hc;have:=HS4.out;omega
       ·rw [if_neg h2] at hb;exact .inl (HVB.out i hi b hb))
     clear hcy;go_wp2_with fail
     go_meet
     exact ⟨_,HFIN,HC9,HX9⟩
    case rest=>
     obtain ⟨v4,HV4,HC4,Ba⟩:=hcut;generalize wc=w4 at HV4 HC4 ⊢;obtain ⟨Q1,r1,rfl⟩:=q07 HC4.out.o1;obtain ⟨Q2,r2,rfl⟩:=q07 HC4.out.o2;obtain ⟨Q0,r0,rfl⟩:=q07 HC4.out.o0;obtain ⟨⟨e0,e1,e2,e3,e4,e5⟩,z0,z1,z2,z3,z4,z5⟩:=Aa.c6 HV4.out.bx;have hlt4:=HV4.out.bx.lt;have HJ0:=Hi (show RvJ (RvB g v4) lo g w4 v4 (bW 0 ((l.drop 2).take 0) { d with bad:=by_,aN:=d.aN ++ [s] }) (m+1+au ((l.drop 2).take 0)) w4 from by
      rw [List.take_zero,q1E];exact RvJ.start HV4.out)
     have HXN:=Hi (show ∀ b,New (RvB g v4) w4 b->w0.heap.size<=b from fun b hb=>by
      have h1:=Ay.out.size;have h2:=HV4.out.up.size;rcases hb with hb | hb
      ·rcases HV4.out.rv.sub hb with h | h
       ·exact HNN.out b h.1
       ·omega
      ·omega)
     have HB4:=Hi (Ay.out.trans (HV4.out.up.below Ay.out.size HNN.out));have HNX:=Hi (show ¬ RvB g v4 w.heap.size from fun hb=>by
      rcases HV4.out.rv.sub hb with h | h <;> omega)
     go_upto_region 55 with fail
     clear e0 e1 e2 e3 e4 e5 z0 z1 z2 z3 z4 z5
     go_loopw [16] (fun vi wr=>∃ (j:Nat) (v5:Nat->Value),j<=(l.drop 2).length/\vi = .int .i64 ((j+2:Nat):Int)/\Hid (RvJ (RvB g v4) lo g w4 v5 (bW 0 ((l.drop 2).take j) { d with bad:=by_,aN:=d.aN ++ [s] }) (m+1+au ((l.drop 2).take j)) wr)) (fun vi _=>l.length - (intOf vi).toNat)
     case atStart=>exact ⟨0,_,V0,rfl,HJ0⟩
     case round=>
      clear HJ0;obtain ⟨j,v5,hj,rfl,HJ⟩:=hrel;rw [List.length_drop] at hj;obtain ⟨⟨e0,e1,e2,e3,e4,e5⟩,z0,z1,z2,z3,z4,z5⟩:=Aa.c6 (HV4.out.bx.upd HJ.out.up HNX.out);by_cases hlt:j+2 < l.length
      ·obtain ⟨x,hx⟩:∃ x,l[j+2]?=some x:=⟨_,List.getElem?_eq_getElem hlt⟩;have hx2:(l.drop 2)[j]?=some x:=by rw [List.getElem?_drop,Nat.add_comm];exact hx
       have HBr:=Hi (HB4.out.trans (HJ.out.up.below HB4.out.size fun b hb=>HXN.out b (.inl hb)));obtain ⟨b2',o2,k3,a3,s3,n3,A3',la3,cA3,B3,lb3,cB3,rfl,hTx,hb3,g0,g1,g2,g3,g4,g5⟩:=q0T HBr.out HL.out HS.out hx;have hmb:m+1+au ((l.drop 2).take j)+nbz x<=1099511627776:=by
        have h1:=q6a _ _ _ hx2;have h2:=nbzs_drop 2 l;have h3:=HMM.out;omega
       have HC:=Hi (HIH.out x (HSZ.out _ x hx) w0 wr (New (RvB g v4) w4) lo g v5 _ _ k3 a3 s3 n3 A3' la3 cA3 B3 lb3 cB3 HBr.out hTx HXN.out HJ.out.rv HJ.out.le hmb);have HXX:=Hi hx2;clear hTx hx hx2 hmb;go_wp2_with fail
       refine HC.out.mono ?_;intro e w2 hr;obtain ⟨rfl,v6,h6⟩:=HJ.out.step hr;have H3:=Hi (show RvJ (RvB g v4) lo g w4 v6 (bW 0 ((l.drop 2).take (j+1)) { d with bad:=by_,aN:=d.aN ++ [s] }) (m+1+au ((l.drop 2).take (j+1))) w2 from by
        rw [q2J _ _ _ _ HXX.out,q1Z _ _ _ HXX.out,<-Nat.add_assoc];exact h6)
       clear hr h6 HC e0 e1 e2 e3 e4 e5 z0 z1 z2 z3 z4 z5 g0 g1 g2 g3 g4 g5;go_wp2_with fail
       go_roundw
       case rel=>exact ⟨j+1,v6,V0r,V7,H3⟩
       case measure=>simp [intOf];omega
      ·have hfull:=HJ.out;rw [List.take_of_length_le V0r,<-q3Y] at hfull;obtain ⟨dE,hdE⟩:∃ e,bW 2 l { d with bad:=by_,aN:=d.aN ++ [s] }=e:=⟨_,rfl⟩;rw [hdE] at hfull HDR;have hle:m+1+au (l.drop 2)<=m+1+au l:=by have:=nbzs_drop 2 l;omega
       have hend:=(hfull.end_ HV4.out HC4.out Ba.out HGB.out HWB.out hgw (d:=d) (fun i hi=>by have:=Az.out i hi;omega)).more hle;rw [HDR.out] at hend;have Ac:=Hi hend;obtain ⟨bq,hbq,_⟩:=hfull.rv.blk;obtain ⟨⟨c0,c1,c2,c3,c4,c5,c6,c7,c8,c9⟩,f5,f6⟩:=EV.c10 hbq;have y0:=hbq.frozen 0;have y1:=hbq.frozen 1;have y2:=hbq.frozen 2;have hgl:=hbq.lt;clear hfull hdE hle hend hbq HJ;exact Vd
end Nm
end Go.Proofs.YtcgibpdjfgjldaaGreatDoor
