/- DERIVED. NmLo, ShNm, NmWu, NmLa, NmWl, NmRv, NmRz, NmRw, NmRx, NmQt. By an AI agent. -/
import Derived.Test.YtcgibpdjfgjldaaGreatDoorR09
import Derived.StillTailTactics
import Derived.Deep.CutBlock
set_option maxRecDepth 100000
set_option maxHeartbeats 8000000
set_option linter.unusedVariables false
set_option linter.unusedSimpArgs false
namespace Go.Proofs.YtcgibpdjfgjldaaGreatDoor
namespace Nm
open Go Go.ChangeShapes Go.WideShapes Go.ChangeAt Go.RowKit Lx Args Pa Sh
mutual
def nbz:Tz->Nat
 | .mk _ _ _ _ ps l=>ps.length+1+au l
def au:List Tz->Nat
 | []=>0
 | x :: l=>nbz x+au l
end
theorem nbzs_drop:∀ (i:Nat) (l:List Tz),au (l.drop i)<=au l
 | 0,l=>by rw [List.drop_zero];exact Nat.le_refl _
 | i+1,[]=>V3
 | i+1,x :: l=>by
  rw [List.drop_succ_cons];have:=nbzs_drop i l;exact V1Y
def StC(M:Nat):Prop:=∀ (z:Tz),SizeOf.sizeOf z < M->∀ (w0 w:World) (N:Nat->Prop) (lo g:Nat) (c:St) (m:Nat) (k a:Int) (s:Bs) (n:Nat) (A:Option Addr) (la cA:Nat) (B:Option Addr) (lb cB:Nat),Below w0.heap.size w0 w->TIc True w0 z (nzC k a s n A la cA B lb cB)->lenz z->(∀ b,N b->w0.heap.size<=b)->CK N lo w g c m->AQ c.kn->m+nbz z<=1099511627776 ->
 Calls Tryz.prog 119 #[.pointer (some ⟨g,0,none⟩),aO k a s n A la cA B lb cB] w (Ag N lo w g (stB z c) (m+nbz z))
theorem CK.sorts{N:Nat->Prop}{lo:Nat}{w:World}{g:Nat}{c:St}{m:Nat}(h:CK N lo w g c m):AQ c.kn:=h.knp.sorts
theorem statements{M:Nat}(H:StC M)(w0 w:World)(N:Nat->Prop)(lo g:Nat)(c:St)(m:Nat)(A:Option Addr)(cA:Nat)(l:List Tz)(css:List (List Value))(hb:Below w0.heap.size w0 w)(hL:Af w0 A css.flatten)(hS:Am True w0 l css)(hl:l.length<=maxLen)
  (hlz:aY l) (hsz:∀ (i:Nat) (x:Tz),l[i]?=some x->SizeOf.sizeOf x < M) (hN:∀ b,N b->w0.heap.size<=b) (hc:CK N lo w g c m) (hm:m+au l<=1099511627776) :
  Calls Tryz.prog 93 #[.pointer (some ⟨g,0,none⟩),.slice A l.length cA] w (Ag N lo w g (cO 0 l c) (m+au l)):=by
 have hlm:l.length<=9223372036854775807:=hl;have HH:=Hi H;have HL:=Hi hL;have HS:=Hi hS;have HLZ:=Hi hlz;have HSZ:=Hi hsz;have HN:=Hi hN;have HM:=Hi hm;have HC0:=Hi (hc.mono (N':=New N w) fun b h _ _=>.inl h);have HB0:=Hi hb;obtain ⟨res,hres⟩:∃ res,cO 0 l c=res:=⟨_,rfl⟩;rw [hres];have Ad:=Hi hres;obtain ⟨M0,hM0⟩:∃ M0,m+au l=M0:=⟨_,rfl⟩;rw [hM0] at HM ⊢;have HMS:=Hi (show m+au l<=M0 from V0);clear H hL hS hlz hsz hN hm hc hb hres hl hM0;go_enter Tryz.func93,Tryz.ntmps93;go_wp2_with fail
 go_loopw [8] (fun vi wr=>∃ (i:Nat) (ci:St) (mi:Nat),i<=l.length/\vi = .int .i64 (i:Int)/\Hid (CK (New N w) lo wr g ci mi)/\Hid (mi+au (l.drop i)<=M0)/\Hid (Upd N w wr)/\Hid (Below w0.heap.size w0 wr)/\Hid (cO 0 (l.drop i) ci=res)) (fun vi _=>l.length - (intOf vi).toNat)
 case atStart=>exact ⟨0,c,m,V0,rfl,HC0,Hi HMS.out,Hi (Upd.refl _ _),HB0,Ad⟩
 case round=>
  obtain ⟨i,ci,mi,hi,rfl,HC,HMI,HU,HBE,HQ⟩:=hrel;by_cases hlt:i < l.length
  ·have hil:(i:Int) < (l.length:Int):=by omega
   obtain ⟨y,hy⟩:∃ y,l[i]?=some y:=⟨_,List.getElem?_eq_getElem hlt⟩;obtain ⟨b,o,k',a',s',n',A',la',bu,B',lb',bA,rfl,hTy,hbl,g0,g1,g2,g3,g4,g5⟩:=q0T HBE.out HL.out HS.out hy;obtain ⟨wb,hwb,hbb,hXb,hsb⟩:=dw wr (nB k' a' s' n' A' la' bu B' lb' bA);have hq:=HQ.out;rw [drop_at hy,q1s] at hq;have hmi:=HMI.out;rw [drop_at hy] at hmi;unfold au at hmi;have hCb:CK (fun b=>New N w b/\b < wr.heap.size) lo wb g ci mi:=(HC.out.mono (N':=fun b=>New N w b/\b < wr.heap.size) fun b h1 h2 _=>⟨h1,h2⟩).below hbb;have hC:=HH.out y (HSZ.out i y hy) w0 wb _ lo g ci mi k' a' s' n' A' la' bu B' lb' bA (HBE.out.trans (hbb.mono HBE.out.size)) hTy (q1W HLZ.out hy) (fun b hb=>hb.1.elim (HN.out b) fun h=>Nat.le_trans HB0.out.size h) hCb hCb.sorts VF;obtain ⟨⟨e0,e1,e2,e3,e4,e5⟩,z0,z1,z2,z3,z4,z5⟩:=Aa.c6 hXb;have HCC:=Hi hC;have HWB:=Hi hwb;have AL:=Hi hq;have Ay:=Hi hbb;have HMI2:=Hi hmi;have hsr:=HU.out.size;generalize nbz y=my at HCC HMI2;clear hC hwb hbb hXb hq hTy hy hCb hmi;generalize stB y ci=r2 at HCC AL;go_wp2_with fail
   rw [HWB.out];refine (show Calls Tryz.prog 119 #[.pointer (some ⟨g,0,none⟩),aO k' a' s' n' A' la' bu B' lb' bA] wb _ from HCC.out).mono ?_;intro e w4 h4;cases r2 with
   | bad a2=>
    obtain ⟨rfl,aF⟩:=h4;have HQ3:=Hi (show Rs.bad a2=res from AL.out);have Ac:=Hi (show Ag N lo w g res M0 (panW a2) w4 from by
     rw [<-HQ3.out];exact ⟨rfl,dm (dm HU.out (Upd.of_below Ay.out fun _=>False) fun _ h=>h.elim) aF fun b hb hlt=>hb.1.resolve_right V0⟩)
    exact VW
   | ok c2=>
    obtain ⟨rfl,hc4,aF⟩:=h4;have HC4:=Hi (hc4.mono (N':=New N w) fun b hb _ _=>hb.elim (fun h=>h.1) fun h=>.inr (Nat.le_trans hsr V0));have AO:=Hi (dm (dm HU.out (Upd.of_below Ay.out fun _=>False) fun _ h=>h.elim) aF fun b hb hlt=>hb.1.resolve_right V0);have HB4:=Hi (q0V (HBE.out.trans (Ay.out.mono HBE.out.size)) aF fun b hb=>hb.1.elim (HN.out b) fun h=>Nat.le_trans HB0.out.size h);have HMI3:=Hi (show mi+my+au (l.drop (i+1))<=M0 by have:=HMI2.out;omega);clear hc4 aF;go_wp2_with fail
    go_roundw
    case rel=>exact ⟨i+1,c2,mi+my,V0,V7,HC4,HMI3,AO,HB4,Hi AL.out⟩
    case measure=>simp [intOf];omega
  ·obtain rfl:i=l.length:=by omega
   have hq:=HQ.out;rw [List.drop_length,q2r] at hq;have hmi:=HMI.out;have Ac:=Hi (show Ag N lo w g res M0 (.returned (.tuple #[])) wr from by rw [<-hq];exact ⟨rfl,HC.out.more V0,HU.out⟩);clear hq;exact Vd
theorem q5w{q:Prop}{w0 w:World}{A:Option Addr}{l:List Tz}{css:List (List Value)}{k:Nat}{e:Ending}{w':World}(h:CutP w A l.length k e w')(hL:Af w0 A css.flatten)(hS:Am q w0 l css) :
  ∃ A1 c1 A2 c2 css1 css2,e = .returned (.tuple #[.slice A1 (l.take k).length c1,.slice A2 (l.drop k).length c2])/\Af w0 A1 css1.flatten/\Am q w0 (l.take k) css1/\Af w0 A2 css2.flatten/\Am q w0 (l.drop k) css2/\Below w.heap.size w w':=by
 obtain ⟨A1,c1,A2,c2,rfl,h1,h2,hb⟩:=h;obtain ⟨h4,h5,h6,h7⟩:=q2F k hS;refine ⟨A1,c1,A2,c2,css.take k,css.drop k,by rw [List.length_take,List.length_drop],lies_take (h1 w0 _ hL) h7,h4,?_,h5,hb⟩;by_cases hlt:0 < l.length - k
 ·rw [<-h6];exact h2 hlt w0 _ hL
 ·exact V3o
def loopB(a:Int)(s:Bs)(l:List Tz)(c:St):Rs:=
 exR (aB (aA c.kn) (aR c.kn) (l.take 2)) (if aQ c.kn s=true then .bad a else
  bndR (cO 2 l { c with kn:=c.kn.put s (3,0),en:=c.en ++ [s] }) fun d=>.ok { d with kn:=d.kn.cu (d.en.drop c.en.length),en:=d.en.take c.en.length })
theorem q68(kn:Kn)(l:List Bs)(s:Bs):(kn.cu l).cu [s]=kn.cu (l ++ [s]):=by
 funext t
 unfold Kn.cu;by_cases h:t∈l <;> by_cases h2:t=s <;> simp [h,h2]
theorem loop{M:Nat}(H:StC M)(w0 w:World)(N:Nat->Prop)(lo g:Nat)(c:St)(m:Nat)(k a:Int)(s:Bs)(n:Nat)(A:Option Addr)(cA:Nat)(B:Option Addr)(lb cB:Nat)(l:List Tz)(css:List (List Value))(hb:Below w0.heap.size w0 w)(hL:Af w0 A css.flatten)(hS:Am True w0 l css)(hlc:l.length<=cA/\cA<=maxLen)
  (hsz:∀ (i:Nat) (x:Tz),l[i]?=some x->SizeOf.sizeOf x < M) (hs:s.length<=maxLen) (hlz:aY l) (hN:∀ b,N b->w0.heap.size<=b) (hc:CK N lo w g c m) (hm:m+1+au l<=1099511627776) :
  Calls Tryz.prog 146 #[.pointer (some ⟨g,0,none⟩),aO k a s n A l.length cA B lb cB] w (Ag N lo w g (loopB a s l c) (m+1+au l)):=by
 have HH:=Hi H;have HSZ:=Hi hsz;have HST:=Hi hS;have HNN:=Hi hN;have hS:=q0m hS;clear H hsz;obtain ⟨wn,hwn,hbn,aK,hsn⟩:=dw w (nB k a s n A l.length cA B lb cB);obtain ⟨⟨e0,e1,e2,e3,e4,e5⟩,z0,z1,z2,z3,z4,z5⟩:=Aa.c6 aK;have HCU:=Hi (cut_ wn A l.length cA 2 hlc.1 hlc.2 V2);have HC0:=Hi (q0e hc hbn);have Bc:=Hi (Upd.of_below hbn N);have HX0:=Hi aK;have HW:=Hi hwn;have HB0:=Hi (hb.trans (hbn.mono hb.size));have HL:=Hi hL;have HS:=Hi hS;have HLZ:=Hi hlz;have HM:=Hi hm;have HN:=Hi (q0U (w:=w) hN (Nat.le_trans hb.size hbn.size));have HSN:=Hi hsn;have hlm:l.length<=maxLen:=Nat.le_trans hlc.1 hlc.2;obtain ⟨res,hres⟩:∃ res,loopB a s l c=res:=⟨_,rfl⟩;rw [hres];have Ad:=Hi hres;have hgl:=aK.lt;clear hc hbn aK hwn hb hL hS hlz hm hN hlc hres hsn;go_enter Tryz.func146,Tryz.ntmps146;go_wp2_with fail
 rw [HW.out];refine (show Calls Tryz.prog 167 #[.slice A l.length cA,.int .i64 2] wn _ from HCU.out).mono ?_;intro e w1 hcp;obtain ⟨A1,c1,A2,c2,css1,css2,rfl,hL1,hS1,hL2,hS2,hb1⟩:=q5w hcp HL.out HST.out;have AP:=Hi (HX0.out.below hb1 HX0.out.lt);have HC1:=Hi (HC0.out.below hb1);have Aj:=Hi (dm Bc.out (Upd.of_below hb1 fun _=>False) fun _ h=>h.elim);have HB1:=Hi (HB0.out.trans (hb1.mono HB0.out.size));have hs1:=hb1.size;have HEX:=Hi (exprs w0 w1 g c.kn _ _ _ A1 c1 (l.take 2) css1 HB1.out hL1 (q0m hS1) (Nat.le_trans VL hlm) (bQ 2 HLZ.out).1 HC1.out.knp (q3r HC1.out.knp));have HL2:=Hi hL2;have HS2:=Hi hS2;clear hcp hL1 hS1 hL2 hS2 hb1 HCU e0 e1 e2 e3 e4 e5 z0 z1 z2 z3 z4 z5;obtain ⟨⟨e0,e1,e2,e3,e4,e5⟩,z0,z1,z2,z3,z4,z5⟩:=Aa.c6 AP.out;unfold loopB at Ad;generalize aB (aA c.kn) (aR c.kn) (l.take 2)=r1 at HEX Ad;generalize (l.take 2).length=n1 at HEX;obtain ⟨lb2,hlb2⟩:∃ lb2,l.drop 2=lb2:=⟨_,rfl⟩;have HLB:=Hi hlb2;rw [hlb2] at HS2 ⊢;clear hlb2;have hlb2m:lb2.length<=9223372036854775807:=by rw [<-HLB.out,List.length_drop];exact Nat.le_trans (Nat.sub_le _ _) hlm
 go_wp2_with fail
 refine (show Calls Tryz.prog 168 #[.pointer (some ⟨g,0,none⟩),.func (.func 170) #[.pointer (some ⟨g,0,none⟩)] #[],.slice A1 n1 c1] w1 _ from HEX.out).mono ?_;intro e w2 h2;cases r1 with
 | some a1=>
  obtain ⟨rfl,hb2⟩:=h2;have Ac:=Hi (show Ag N lo w g res (m+1+au l) (panW a1) w2 from V3B);clear hb2;exact Vk
 | none=>
 obtain ⟨rfl,hb2⟩:=h2;have Ah:=Hi (AP.out.below hb2 AP.out.lt);have HC2:=Hi (HC1.out.below hb2);have Ai:=Hi (dm Aj.out (Upd.of_below hb2 fun _=>False) fun _ h=>h.elim);have HB2:=Hi (HB1.out.trans (hb2.mono HB1.out.size));have hs2:=hb2.size;have hdr:Below w2.heap.size w2 w2.drew:=Below.drew (Below.refl _ _);obtain ⟨wd,hwd⟩:∃ v,w2.drew=v:=⟨_,rfl⟩;rw [hwd] at hdr;have HXd:=Hi (Ah.out.below hdr Ah.out.lt);have HCd:=Hi (HC2.out.below hdr);have HUd:=Hi (dm Ai.out (Upd.of_below hdr fun _=>False) fun _ h=>h.elim);have HBd:=Hi (HB2.out.trans (hdr.mono HB2.out.size));have hsd:=hdr.size;have aa:Below wd.heap.size wd wd:=Below.refl _ _;have HIN:=Hi (isNamed wd g c.kn HCd.out.knp s hs);clear hb2 hdr e0 e1 e2 e3 e4 e5 z0 z1 z2 z3 z4 z5;go_wp2_with fail
 refine HT.wp_region (Z:=fun w'=>Below wd.heap.size wd w') (S:=fun _=>True) (st:=[]) V1 ?_;rw [hwd];clear hwd;refine HT.k 0 rfl Vh aa ?_;refine HT.k 1 rfl Vh aa ?_;refine HT.k 2 rfl Vh aa ?_;refine HT.k 3 rfl Vh aa ?_;refine HT.one (i:=4) V1 rfl (fun K hK=>?_);go_simp;refine HIN.out.mono ?_;rintro e w5 ⟨rfl,hb5⟩;(try dsimp only);refine hK.out _ _ hb5 trivial ?_;clear hK K;(try simp only [HT.pS]);have HR:=Hi (refuse w5 k a s n A l.length cA B lb cB (aQ c.kn s));obtain ⟨q,hq⟩:∃ q,aQ c.kn s=q:=⟨_,rfl⟩;rw [hq] at HR Ad ⊢;clear HIN hq;cases q with
 | true=>
  have AL:=Hi (show Rs.bad a=res from Ad.out);refine HT.one (i:=5) V1 rfl (fun K hK=>?_);go_simp;refine (show Calls Tryz.prog 162 #[aO k a s n A l.length cA B lb cB,.bool true] w5 _ from HR.out).mono ?_;rintro e w6 ⟨rfl,hb6⟩;have Ac:=Hi (show Ag N lo w g res (m+1+au l) (panW a) w6 from V2S);clear hb6;exact Vl
 | false=>
 refine HT.one (i:=5) V1 rfl (fun K hK=>?_);go_simp;refine (show Calls Tryz.prog 162 #[aO k a s n A l.length cA B lb cB,.bool false] w5 _ from HR.out).mono ?_;rintro e w6 ⟨rfl,hb6⟩;have di:=hb5.trans (hb6.mono hb5.size);have HX6:=Hi (HXd.out.below di HXd.out.lt);have HC6:=Hi (HCd.out.below di);have HU6:=Hi (dm HUd.out (Upd.of_below di fun _=>False) fun _ h=>h.elim);have HB6:=Hi (HBd.out.trans (di.mono HBd.out.size));have hs6:=di.size;clear hb6;(try dsimp only);refine hK.out _ _ di trivial ?_;clear hK K;(try simp only [HT.pS]);refine HT.done V1 ?_;clear hb5 di HR aa HXd HCd HUd HBd Ah HC2 Ai HB2 AP HC1 Aj HB1 HX0 HC0 Bc HB0;obtain ⟨⟨vs,vp,vo,ve,kb,ob,hv⟩,_⟩:=HC6.out;obtain ⟨Ae,ce,rfl⟩:=q07 hv.oe;have c5:w6.cell? ⟨g,5,none⟩=some (.slice Ae c.en.length ce):=hv.blk.cell 5;have HNA:=Hi (name_ (In2 N w wn) lo w6 g c m HC6.out VF s hs 3 V2);obtain ⟨⟨e0,e1,e2,e3,e4,e5⟩,z0,z1,z2,z3,z4,z5⟩:=Aa.c6 HX6.out;clear hv;go_wp2_with fail
 refine (show Calls Tryz.prog 164 #[.pointer (some ⟨g,0,none⟩),.string ⟨s.toArray⟩,.int .i64 3] w6 _ from HNA.out).mono ?_;rintro e w7 ⟨rfl,hc7,hu7⟩;have HC7:=Hi (q1v hc7 (show wn.heap.size<=w6.heap.size from V0));have HU7:=Hi (q0i HU6.out hu7 V9);have HB7:=Hi (q0V HB6.out hu7 HN.out);have hs7:=hu7.size;obtain ⟨c1,hc1⟩:∃ c1:St,({ c with kn:=c.kn.put s (3,0),en:=c.en ++ [s] }:St)=c1:=⟨_,rfl⟩;rw [hc1] at HC7 Ad;have HST2:=Hi (statements HH.out w0 w7 (In2 N w wn) lo g c1 (m+1) A2 c2 lb2 css2 HB7.out HL2.out HS2.out hlb2m (by rw [<-HLB.out];exact (bQ 2 HLZ.out).2) (fun i x hx=>HSZ.out (2+i) x (by rw [<-HLB.out,List.getElem?_drop] at hx;exact hx)) HN.out HC7.out (by have:=HM.out;have:=nbzs_drop 2 l;rw [HLB.out] at this;omega));have HSO:=Hi HC7.out.sorts;have HC1E:=Hi (show c1.en.length=c.en.length+1 by rw [<-hc1];simp);rw [q3R 2,HLB.out] at Ad;have Ad:Hid (bndR (cO 0 lb2 c1) (fun d=>.ok { d with kn:=d.kn.cu (d.en.drop c.en.length),en:=d.en.take c.en.length })=res):=Hi Ad.out;have HEXT:=Hi (fun c3 (h:cO 0 lb2 c1 = .ok c3)=>(q1f h HSO.out).1.len);have HML:=Hi (show au lb2<=au l by rw [<-HLB.out];exact nbzs_drop 2 l);generalize cO 0 lb2 c1=r3 at HST2 Ad HEXT;clear hc7 hu7 hc1 HNA e0 e1 e2 e3 e4 e5 z0 z1 z2 z3 z4 z5 c5;go_wp2_with fail
 refine (show Calls Tryz.prog 93 #[.pointer (some ⟨g,0,none⟩),.slice A2 lb2.length c2] w7 _ from HST2.out).mono ?_;intro e w8 h8;cases r3 with
 | bad a3=>
  obtain ⟨rfl,bU⟩:=h8;have Ac:=Hi (show Ag N lo w g res (m+1+au l) (panW a3) w8 from by rw [<-Ad.out];exact ⟨rfl,q0i HU7.out bU V9⟩);clear bU;exact Vk
 | ok c3=>
 obtain ⟨rfl,hc8,bU⟩:=h8;have HC8:=Hi (q1v hc8 (show wn.heap.size<=w7.heap.size from V0));have HU8:=Hi (q0i HU7.out bU V9);have HB8:=Hi (q0V HB7.out bU HN.out);have aV:=bU.size;have AL:=Hi (show Rs.ok { c3 with kn:=c3.kn.cu (c3.en.drop c.en.length),en:=c3.en.take c.en.length }=res from Ad.out);have hlen:=HEXT.out c3 rfl;have hlen2:=HC1E.out;obtain ⟨⟨vs,vp,vo,ve,kb,ob,hv⟩,hbd⟩:=HC8.out;obtain ⟨Ae,ce,rfl⟩:=q07 hv.oe;have hsome:∃ ge,Ae=some ⟨ge,0,none⟩/\c3.en.length<=ce/\ce<=maxLen:=by
  rcases hv.oe.2 with ⟨h,h0⟩ | ⟨g',cap,cur,h,_,_,h1,h2,_⟩
  ·omega
  ·cases h;exact ⟨g',rfl,h1,h2⟩
 obtain ⟨ge,rfl,hce,hcm⟩:=hsome;have HV8:=Hi hv;have Az:=Hi hbd;have hcmm:ce<=9223372036854775807:=hcm;obtain ⟨ah,hah⟩:∃ ah,c.en.length=ah:=⟨_,rfl⟩;rw [hah] at hlen2 AL ⊢;have hah1:ah < c3.en.length:=V0;have hne:¬ ce=ah:=V0;have i1:(0:Int)<=(ah:Int):=V0;have i2:(ah:Int)<=(c3.en.length:Int):=V0;have c5:w8.cell? ⟨g,5,none⟩=some (.slice (some ⟨ge,0,none⟩) c3.en.length ce):=hv.blk.cell 5;have c3':w8.cell? ⟨g,3,none⟩=some (.map (some kb)):=hv.blk.cell 3;obtain ⟨dl,hdl⟩:∃ dl,c3.en.drop ah=dl:=⟨_,rfl⟩;have hdll:dl.length=c3.en.length - ah:=by rw [<-hdl];simp
 have hLd:Af w8 (some ⟨ge,ah,none⟩) (dl.map ai):=fun j u hj=>by
  refine ⟨_,rfl,?_⟩;rw [Args.add_plain];have:=hv.oe.cells (g:=ge) rfl (ah+j) u (by rw [<-hdl,List.map_drop,List.getElem?_drop] at hj;exact hj);rw [Args.add_plain] at this;simpa using this
 have hgk:¬ ge=kb:=fun e=>hv.ne.2.1.2.2.2.2 (by rw [<-e];rfl)
 obtain ⟨nd,hnd⟩:∃ nd,c3.en.length - ah=nd:=⟨_,rfl⟩;rw [hnd] at hdll;have hndm:nd<=9223372036854775807:=V0;have HLD:=Hi hLd;have HDL:=Hi hdl;have HND:=Hi hdll;have HENL:=Hi HC8.out.enl;rw [hdl] at AL;clear hc8 bU hv hbd hah HEXT HST2 HC1E hlen hLd hdl hdll;go_wp2_with fail
 (try rw [hnd]);clear hnd
 go_loopw [45] (fun vi wr=>∃ i:Nat,i<=nd/\vi = .int .i64 (i:Int)/\Hid (CV (In2 N w wn) lo wr g vs vp vo (.slice (some ⟨ge,0,none⟩) c3.en.length ce) kb ob c3.se c3.pu c3.ou c3.en (c3.kn.cu (dl.take i)) (outF c3.ou) (m+1+au lb2))/\Hid (Upd N w wr)/\Hid (Upd (fun b=>b=kb) w8 wr)) (fun vi _=>nd - (intOf vi).toNat)
 case atStart=>exact ⟨0,V0,rfl,Hi (by
  have h0:c3.kn.cu (dl.take 0)=c3.kn:=by funext t;simp [Kn.cu]
  rw [h0];exact HV8.out),HU8,Hi (Upd.refl _ _)⟩
 case round=>
  obtain ⟨i,hi,rfl,HV,HU,HK⟩:=hrel;have hv:=HV.out;have d3:wr.cell? ⟨g,3,none⟩=some (.map (some kb)):=hv.blk.cell 3;have d5:wr.cell? ⟨g,5,none⟩=some (.slice (some ⟨ge,0,none⟩) c3.en.length ce):=hv.blk.cell 5;have d5f:wr.frozen? ⟨g,5,none⟩=false:=hv.blk.frozen 5;have hgl2:=hv.blk.lt;by_cases hlt:i < nd
  ·obtain ⟨p,hp⟩:∃ p,dl[i]?=some p:=⟨_,List.getElem?_eq_getElem (by have:=HND.out;omega)⟩;have f1:(dl.map ai)[i]?=some (.string ⟨p.toArray⟩):=VE;obtain ⟨b',o',hbo,hbl,hc1⟩:=(HK.out.lies HLD.out fun b o e _ hx=>by cases e;exact hgk hx).at_ f1;cases hbo;have g1:=hc1 _ _ f1;have hpm:p.length<=maxLen:=HENL.out p (List.mem_of_mem_drop (by rw [HDL.out];exact List.mem_of_getElem? hp));obtain ⟨w9,hrun,hm9,ht9⟩:=hv.mp.del hpm 0;have hz9:Upd (fun b=>b=kb) wr w9:=q0f ht9 rfl;have HV9:Hid (CV (In2 N w wn) lo w9 g vs vp vo (.slice (some ⟨ge,0,none⟩) c3.en.length ce) kb ob c3.se c3.pu c3.ou c3.en (c3.kn.cu (dl.take (i+1))) (outF c3.ou) (m+1+au lb2)):=Hi (by
    rw [q3X hp,<-q68];exact hv.kn' hz9 hm9 (Nat.le_refl _))
   have HU9:=Hi (q0i HU.out (hz9.mono fun b hb=>hb ▸ hv.bY _ V3 kb rfl) V9);have HK9:=Hi (HK.out.trans hz9);clear hv hc1 f1 hp hm9 ht9 hz9 d5 d5f;go_wp2_with fail
   go_roundw
   case rel=>exact ⟨i+1,V0,V7,HV9,HU9,HK9⟩
   case measure=>simp [intOf];omega
  ·obtain rfl:i=nd:=by omega
   have htk:dl.take i=dl:=List.take_of_length_le (by have:=HND.out;omega);have hv2:=hv;rw [htk] at hv2;have i3:(ah:Int)<=(ce:Int):=V0;have hot:=q7n (k:=ah) hv2.oe V0 V3;have hown:wr.ownsRow lo 9 1 (.slice (some ⟨ge,0,none⟩) ah ce) (c3.en.take ah).length ((c3.en.take ah).map ai):=by
    rw [List.length_take,show min ah c3.en.length=ah from V0,List.map_take];rw [Nat.mul_one] at hot;exact hot
   have hfin:=hv2.ve' (en':=c3.en.take ah) (Upd.refl _ _) hown (.inl rfl);have Ac:=Hi (show Ag N lo w g res (m+1+au l) (.returned (.tuple #[])) (wr.setCell ⟨g,5,none⟩ (.slice (some ⟨ge,0,none⟩) ah ce)) from by
    rw [<-AL.out];have hb:=Az.out;have hml:=HML.out;have hsu:=HU.out.size;refine ⟨rfl,⟨⟨vs,vp,vo,_,kb,ob,(hfin.more (show m+1+au lb2<=m+1+au l from V0)).mono fun b hb _ _=>?_⟩,⟨by show c3.se.length<=_;omega,by show c3.pu.length<=_;omega,by show c3.ou.length<=_;omega,by show (c3.en.take ah).length<=_;rw [List.length_take];omega⟩,fun t ht=>HENL.out t (List.mem_of_mem_take ht)⟩,?_⟩
    ·rcases hb with (h | h) | h
     ·exact .inl h.1
     ·exact .inr V9
     ·exact .inr V0
    ·exact q0i HU.out ((Upd.refl _ wr).setCell (p:=⟨g,5,none⟩) (fun _=>hv.bY _ V3 g rfl) _) V9)
   clear hv hv2 hot hown hfin htk d3;exact Vd
end Nm
namespace Sh
open Go Go.ChangeShapes Go.WideShapes Go.ChangeAt Go.RowKit Lx Args Pa

end Sh
namespace Nm
open Go Go.ChangeShapes Go.WideShapes Go.ChangeAt Go.RowKit Lx Args Pa Sh
theorem q7r:∀ {l:List (Bs×Bool)} {i:Nat} {x:Bs×Bool},l[i]?=some x->∀ j,j < 3->(l.flatMap laC)[i * 3+j]?=(laC x)[j]?
 | [],i,x,h,j,hj=>Vc
 | y :: l,0,x,h,j,hj=>by
  exact V3j
 | y :: l,i+1,x,h,j,hj=>by
  rw [List.flatMap_cons,List.getElem?_append_right (by show 3<=_;omega),<-q7r (l:=l) (i:=i) (x:=x) Va j hj]
  congr 1
  show (i+1) * 3+j - 3=i * 3+j;omega
theorem q7s{w:World}{A:Option Addr}{l:List (Bs×Bool)}(hL:Af w A (l.flatMap laC)){i:Nat}{s:Bs}{q:Bool}(h:l[i]?=some (s,q)) :
  ∃ b o,A=some ⟨b,o,none⟩/\b < w.heap.size/\w.cell? ⟨b,o+i * 3,none⟩=some (.string ⟨s.toArray⟩)/\w.cell? ⟨b,o+i * 3+1,none⟩=some (.bool false)/\w.cell? ⟨b,o+i * 3+2,none⟩=some (.bool q):=by
 have g0:=q7r h 0 V0;have g1:=q7r h 1 V0;have g2:=q7r h 2 V0;obtain ⟨b,o,rfl,hb,hc⟩:=hL.at_ (j:=i * 3+0) (g0.trans rfl);refine ⟨b,o,rfl,hb,hc _ _ (g0.trans rfl),?_,?_⟩
 ·exact V1W
 ·exact V1V
end Nm
end Go.Proofs.YtcgibpdjfgjldaaGreatDoor
namespace Go.Proofs.YtcgibpdjfgjldaaGreatDoor.HT
open Go
variable {P : Program} {ops : Array Oper} {Q : Exit -> Act -> World -> Prop} {md : Region.Mode} {Z S : World -> Prop} {st : List Nat}
theorem two{i j:Nat}{oi oj:Oper}{f:Nat}{listed:Array Bool}{a:Act}{w:World}(hr:Region.ready md ops listed=[i,j])(hi:ops[i]?=some oi)(hj:ops[j]?=some oj)
  (h1:∀ K:Act->World->Prop,Shut (∀ a' w',Z w'->S w'->bN P md ops Q Z S st f (listed.setIfInBounds i true) a' w'->K a' w')->if Region.wanted oi (yielded ops a.tmps)=true then Oper.wp P oi a w K Q else K (a.put oi.dst undef) w)
  (h2:∀ K:Act->World->Prop,Shut (∀ a' w',Z w'->S w'->bN P md ops Q Z S st f (listed.setIfInBounds j true) a' w'->K a' w')->if Region.wanted oj (yielded ops a.tmps)=true then Oper.wp P oj a w K Q else K (a.put oj.dst undef) w):bN P md ops Q Z S st (f+1) listed a w:=
 ⟨fun h0=>V0U,fun k hk=>by
  exact V2C⟩
end Go.Proofs.YtcgibpdjfgjldaaGreatDoor.HT
namespace Go.Proofs.YtcgibpdjfgjldaaGreatDoor.Nm
open Go Go.ChangeShapes Go.WideShapes Go.ChangeAt Go.RowKit Lx Args Pa Sh
theorem split_at{l:List Tz}{k:Nat}{x:Tz}(h:l[k]?=some x):l=l.take k ++ x :: l.drop (k+1):=by
 rw [<-drop_at h,List.take_append_drop]
theorem q69{w:World}{lo:Nat}{e:TypeId}{size n:Nat}{v:Value}{xs:List Value}(h:w.ownsRow lo e size v n xs):n<=maxLen:=by
 rcases h.2 with ⟨_,h0⟩ | ⟨g,cap,cur,_,_,_,h1,h2,_⟩
 ·rw [h0];exact Nat.zero_le _
 ·exact Nat.le_trans h1 h2
end Go.Proofs.YtcgibpdjfgjldaaGreatDoor.Nm
namespace Go.Proofs.YtcgibpdjfgjldaaGreatDoor
namespace Nm
open Go Go.ChangeShapes Go.WideShapes Go.ChangeAt Go.RowKit Lx Args Pa Sh
def rvT:Nat->TypeId
 | 4=>3
 | 7=>36
 | _=>9
def rvZ:Nat->Nat
 | 7=>3
 | _=>1
def rvN(d:RS):Nat->Nat
 | 0=>d.aT.length
 | 1=>d.var.length
 | 2=>d.aN.length
 | 3=>d.fn.length
 | 4=>d.many.length
 | 5=>d.se.length
 | 6=>d.pu.length
 | _=>d.ou.length
def rvX(d:RS):Nat->List Value
 | 0=>d.aT.map ai
 | 1=>d.var.map ai
 | 2=>d.aN.map ai
 | 3=>d.fn.map ai
 | 4=>d.many.map intV
 | 5=>d.se.map ai
 | 6=>d.pu.map ai
 | _=>d.ou.flatMap laC
def rvC:Nat->Nat
 | 5=>7
 | 6=>8
 | 7=>9
 | i=>i
def cK(v:Nat->Value)(i:Nat)(u:Value):Nat->Value:=fun j=>if j=i then u else v j
structure RV(N:Nat->Prop)(lo:Nat)(w:World)(g:Nat)(v:Nat->Value)(d:RS):Prop where
 blk:∃ ba,Aa w g 70 #[v 0,v 1,v 2,v 3,v 4,.int .i64 ba,.bool d.bad.isSome,v 5,v 6,v 7]/\∀ a,d.bad=some a->ba=a
 own:∀ i,i < 8->w.ownsRow lo (rvT i) (rvZ i) (v i) (rvN d i) (rvX d i)
 dis:∀ i j,i < 8->j < 8->i≠j->∀ b,(v i).ownBlock=some b->(v j).ownBlock≠some b
 far:∀ i,i < 8->(v i).ownBlock≠some g
 bY:N g/\∀ i,i < 8->∀ b,(v i).ownBlock=some b->N b
 low:lo<=g/\lo<=w.heap.size
 len:d.many.length=d.fn.length
section
variable {N N' X : Nat -> Prop} {lo : Nat} {w w' : World} {g : Nat} {v : Nat -> Value} {d d' : RS}
theorem RV.lt(h:RV N lo w g v d):g < w.heap.size:=by obtain ⟨_,h,_⟩:=h.blk;exact h.lt
theorem q3w{l:List Bs}{u:Value}(h:w.ownsRow lo 9 1 u l.length (l.map ai))(hg:u.ownBlock≠some g):StL w g u l:=by
 obtain ⟨A,c,rfl⟩:=q07 h;exact ⟨A,c,rfl,q0o h,q69 h,fun b o e _ hb=>hg (by rw [e,hb];rfl)⟩
theorem inL_own{l:List Nat}{u:Value}(h:w.ownsRow lo 3 1 u l.length (l.map intV))(hg:u.ownBlock≠some g):InL w g u l:=by
 obtain ⟨A,c,rfl⟩:=q07 h;exact ⟨A,c,rfl,q0o h,q69 h,fun b o e _ hb=>hg (by rw [e,hb];rfl)⟩
theorem RV.ev(h:RV N lo w g v d):EV w g (v 0) (v 1) (v 2) (v 3) (v 4) (v 5) (v 6) (v 7) d d.bad:=
 ⟨h.blk,q3w (h.own 0 V2) (h.far 0 V2),q3w (h.own 1 V2) (h.far 1 V2),q3w (h.own 2 V2) (h.far 2 V2),q3w (h.own 3 V2) (h.far 3 V2),inL_own (h.own 4 V2) (h.far 4 V2),h.len⟩
theorem RV.mono(h:RV N lo w g v d)(hN:∀ b,N b->b < w.heap.size->N' b):RV N' lo w g v d:=
 ⟨h.blk,h.own,h.dis,h.far,⟨hN g h.bY.1 h.lt,fun i hi b hb=>hN b (h.bY.2 i hi b hb) (av (h.own i hi) b hb).2⟩,h.low,h.len⟩
theorem RV.upd(h:RV N lo w g v d)(hu:Upd X w w')(hg:¬ X g)(hX:∀ i,i < 8->∀ b,(v i).ownBlock=some b->¬ X b):RV N lo w' g v d:=by
 obtain ⟨ba,hb,aL⟩:=h.blk;exact ⟨⟨ba,hb.upd hu hg,aL⟩,fun i hi=>ae (h.own i hi) hu (hX i hi),h.dis,h.far,h.bY,⟨h.low.1,Nat.le_trans h.low.2 hu.size⟩,h.len⟩
theorem RV.below(h:RV N lo w g v d)(hb:Below w.heap.size w w'):RV N lo w' g v d:=h.upd (Upd.of_below hb fun _=>False) id fun _ _ _ _ h=>h
theorem RV.exR(h:RV N lo w g v d){bad:Option Int}(he:EV w' g (v 0) (v 1) (v 2) (v 3) (v 4) (v 5) (v 6) (v 7) d bad)(hu:Upd (fun b=>b=g) w w'):RV N lo w' g v { d with bad:=bad }:=by
 obtain ⟨ba,hb,aL⟩:=he.blk;exact ⟨⟨ba,hb,aL⟩,fun i hi=>ae (h.own i hi) hu fun b hb e=>h.far i hi Ve,h.dis,h.far,h.bY,⟨h.low.1,Nat.le_trans h.low.2 hu.size⟩,h.len⟩
theorem RV.row(h:RV N lo w g v d)(i:Nat)(hi:i < 8){w8:World}{u:Value}(hu:Upd (fun b=>(v i).ownBlock=some b) w w8)(hown:w8.ownsRow lo (rvT i) (rvZ i) u (rvN d' i) (rvX d' i))(hat:u.ownBlock=(v i).ownBlock\/∃ b,u.ownBlock=some b/\w.heap.size<=b)
  (hd:∀ j,j < 8->j≠i->rvN d' j=rvN d j/\rvX d' j=rvX d j) (hbad:d'.bad=d.bad) (hlen:d'.many.length=d'.fn.length) (hN:∀ b,N b->N' b) (hN':∀ b,w.heap.size<=b->b < w8.heap.size->N' b) :
  RV N' lo (w8.setCell ⟨g,rvC i,none⟩ u) g (cK v i u) d'/\Upd (fun b=>(v i).ownBlock=some b\/b=g) w (w8.setCell ⟨g,rvC i,none⟩ u):=by
 obtain ⟨ba,hb,aL⟩:=h.blk;have hg:=h.lt;have hug:u.ownBlock≠some g:=by
  rcases hat with e | ⟨b,e,hb⟩
  ·rw [e];exact h.far i hi
  ·rw [e];intro hh;cases hh;omega
 have hs:Upd (fun b=>b=g) w8 (w8.setCell ⟨g,rvC i,none⟩ u):=(Upd.refl (fun b=>b=g) w8).setCell (p:=⟨g,rvC i,none⟩) (fun _=>rfl) u;have hb8:=hb.upd hu (h.far i hi);have hset:=hb8.set (rvC i) u;have huj:∀ j,j < 8->j≠i->u.ownBlock≠none->∀ b,u.ownBlock=some b->(v j).ownBlock≠some b:=fun j hj hji _ b hub hvb=>by
  rcases hat with e | ⟨b',e,hb'⟩
  ·exact h.dis i j hi hj (Ne.symm hji) b (by rw [<-e];exact hub) hvb
  ·have hbb:b'=b:=Option.some.inj (e.symm.trans hub);have:=(av (h.own j hj) b hvb).2;omega
 refine ⟨⟨⟨ba,?_,fun a ha=>aL a (by rw [<-hbad];exact ha)⟩,fun j hj=>?_,fun j k hj hk hjk b hjb hkb=>?_,fun j hj=>?_,⟨hN g h.bY.1,fun j hj b hjb=>?_⟩,⟨h.low.1,?_⟩,hlen⟩,?_⟩
 ·exact V2w
 ·by_cases hji:j=i
  ·exact V3R
  ·unfold cK;rw [if_neg hji,(hd j hj hji).1,(hd j hj hji).2];exact ae (ae (h.own j hj) hu fun b hb e=>h.dis i j hi hj (Ne.symm hji) b e hb) hs fun b hb e=>h.far j hj Ve
 ·unfold cK at hjb hkb;by_cases hji:j=i
  ·rw [if_pos hji] at hjb;rw [if_neg (fun e=>hjk (hji.trans e.symm))] at hkb;exact huj k hk (fun e=>hjk (hji.trans e.symm)) (by rw [hjb];simp) b hjb hkb
  ·rw [if_neg hji] at hjb;by_cases hki:k=i
   ·rw [if_pos hki] at hkb;exact huj j hj hji (by rw [hkb];simp) b hkb hjb
   ·rw [if_neg hki] at hkb;exact h.dis j k hj hk hjk b hjb hkb
 ·exact V3w
 ·unfold cK at hjb;by_cases hji:j=i
  ·rw [if_pos hji] at hjb;rcases hat with e | ⟨b',e,hb'⟩
   ·exact hN b (h.bY.2 i hi b (by rw [<-e];exact hjb))
   ·have hbb:b'=b:=Option.some.inj (e.symm.trans hjb);exact hN' b V0 (av hown b hjb).2
  ·rw [if_neg hji] at hjb;exact hN b (h.bY.2 j hj b hjb)
 ·have:=hu.size;have:=hs.size;have:=h.low.2;omega
 ·exact (hu.mono fun b hb=>.inl hb).trans (hs.mono fun b hb=>.inr hb)
end
def RStP(N:Nat->Prop)(lo:Nat)(w:World)(g:Nat)(d:RS)(m:Nat)(e:Ending)(w':World):Prop:=e = .returned (.tuple #[])/\(∃ v,RV (New N w) lo w' g v d)/\(∀ i,i < 8->rvN d i<=m)/\Upd N w w'
theorem q1L(s:Bs)(wx:World)(g:Nat)(v:Value)(ls:List Bs)(hv:StL wx g v ls):Calls Tryz.prog 52 #[v,.string ⟨s.toArray⟩] wx fun e w'=>e = .returned (.bool (ls.contains s))/\wx=w':=by
 obtain ⟨Av,cv,rfl,hLv,hlv,_⟩:=hv;have:=q51 Av cv ls ⟨s.toArray⟩ wx hLv hlv;rw [show (ByteArray.mk s.toArray).data.toList=s from V3] at this;exact this
theorem AZ.bad{w wx:World}{g:Nat}{v0 v1 v2 v3 v4 v7 v8 v9:Value}{d:RS}{b:Option Int}{k a:Int}{s:Bs}{n:Nat}{A:Option Addr}{la cA:Nat}{B:Option Addr}{lb cB:Nat}(hv:AZ w wx g v0 v1 v2 v3 v4 v7 v8 v9 d b (nB k a s n A la cA B lb cB))(hne:¬ w.heap.size=g)(q:Bool) :
  Calls Tryz.prog 64 #[.pointer (some ⟨g,0,none⟩),.bool q,aO k a s n A la cA B lb cB] wx fun e w'=>e = .returned (.tuple #[])/\AZ w w' g v0 v1 v2 v3 v4 v7 v8 v9 d (bT b q a) (nB k a s n A la cA B lb cB):=
 (bad_ wx g _ _ _ _ _ _ _ _ d b q k a s n A la cA B lb cB hv.ev).mono fun e w' ⟨h1,h2,h3⟩=>⟨h1,h2,hv.up.trans h3,hv.bx.upd h3 hne⟩
theorem q5x{P:Program}{w:World}{ops:Array Oper}{rest:List Oper}{o:Oper}{a:Act}{Q:Exit->Act->World->Prop}(hgd:o.guard=none)(s x:Operand)(t:TypeId)
  (ho:o.op = .call { callee:=.builtin .append,args:=#[s,x],argTypes:=#[t,t] })
  (base:Nat) (e:TypeId) (i:TypeInfo) (z:Value) (size bytes:Nat) (ht:P.underlying t=some (.slice e)) (hi:P.info? e=some i) (hz:i.zero=some z)
  (hsize:i.size=size) (hby:i.bytes=bytes) (hzs:z.cells.size=size) (hsz:0 < size) (v:Value) (n:Nat) (xs:List Value) (hs:a.eval s=v) (hown:w.ownsRow base e size v n xs)
  (A:Option Addr) (m d:Nat) (news:List Value) (hx:a.eval x = .slice A m d) (hl:news.length=m * size) (hL:Af w A news) (h1:∀ u∈news,u.oneCell'=true) (h63:n+m<=maxLen) (hbytes:(n+m) * bytes<=140737488355328) (hbase:base<=w.heap.size)
  (h:∀ v' w',w'.ownsRow base e size v' (n+m) (xs ++ news)->w.grownBy w' v.ownBlock->(v'.ownBlock=v.ownBlock\/v'.ownBlock=some w.heap.size)->wpList P ops Q rest (a.put o.dst v') w'):wpList P ops Q (o :: rest) a w:=
 wpList_plain hgd fun _ hK=>by
  obtain ⟨v',w',hrun,h2,h3,h4⟩:=q2D (P:=P) base t o.type e i z size bytes ht hi hz hsize hby hzs hsz v n xs hown A m d news hl hL h1 h63 hbytes hbase;unfold Oper.wp execOp;simp only [ho,resolve,invoke,builtin,Sem.run_bind,Sem.run_pure,Result.andThen_ok,List.map_toArray,List.map_cons,List.map_nil,hs,hx,hrun];exact hK _ _ (h v' w' h2 h3 h4)
theorem cz(w:World){lo:Nat}(hb:lo<=w.heap.size)(e:TypeId)(size:Nat):(w.alloc (.cells #[] e)).ownsRow lo e size (.slice (some ⟨w.heap.size,0,none⟩) 0 0) 0 []:=
 q11 w hb e size 0 [] V3 V2
section
variable {N N' X : Nat -> Prop} {lo : Nat} {w w' : World} {g : Nat} {v : Nat -> Value} {d d' : RS}
theorem RV.put(h:RV N lo w g v d)(i:Nat)(hi:i < 8){u:Value}(hown:w.ownsRow lo (rvT i) (rvZ i) u (rvN d' i) (rvX d' i))(hug:u.ownBlock≠some g)(huj:∀ j,j < 8->j≠i->∀ b,u.ownBlock=some b->(v j).ownBlock≠some b)
  (hd:∀ j,j < 8->j≠i->rvN d' j=rvN d j/\rvX d' j=rvX d j) (hbad:d'.bad=d.bad) (hlen:d'.many.length=d'.fn.length) (hN:∀ b,N b->N' b) (hN':∀ b,u.ownBlock=some b->N' b) :
  RV N' lo (w.setCell ⟨g,rvC i,none⟩ u) g (cK v i u) d':=by
 obtain ⟨ba,hb,aL⟩:=h.blk;have hs:Upd (fun b=>b=g) w (w.setCell ⟨g,rvC i,none⟩ u):=(Upd.refl (fun b=>b=g) w).setCell (p:=⟨g,rvC i,none⟩) (fun _=>rfl) u;have hset:=hb.set (rvC i) u;refine ⟨⟨ba,?_,fun a ha=>aL a (by rw [<-hbad];exact ha)⟩,fun j hj=>?_,fun j k hj hk hjk b hjb hkb=>?_,fun j hj=>?_,⟨hN g h.bY.1,fun j hj b hjb=>?_⟩,⟨h.low.1,?_⟩,hlen⟩
 ·exact V2w
 ·by_cases hji:j=i
  ·exact V3R
  ·unfold cK;rw [if_neg hji,(hd j hj hji).1,(hd j hj hji).2];exact ae (h.own j hj) hs fun b hb e=>h.far j hj Ve
 ·unfold cK at hjb hkb;by_cases hji:j=i
  ·rw [if_pos hji] at hjb;rw [if_neg (fun e=>hjk (hji.trans e.symm))] at hkb;exact huj k hk (fun e=>hjk (hji.trans e.symm)) b hjb hkb
  ·rw [if_neg hji] at hjb;by_cases hki:k=i
   ·rw [if_pos hki] at hkb;exact huj j hj hji b hkb hjb
   ·rw [if_neg hki] at hkb;exact h.dis j k hj hk hjk b hjb hkb
 ·exact V3w
 ·unfold cK at hjb;by_cases hji:j=i
  ·rw [if_pos hji] at hjb;exact hN' b hjb
  ·rw [if_neg hji] at hjb;exact hN b (h.bY.2 j hj b hjb)
 ·have:=hs.size;have:=h.low.2;omega
def RvB(g:Nat)(v:Nat->Value):Nat->Prop:=fun b=>b=g\/∃ i,i < 8/\(v i).ownBlock=some b
theorem RV.own_(h:RV N lo w g v d):RV (RvB g v) lo w g v d:=
 ⟨h.blk,h.own,h.dis,h.far,⟨.inl rfl,fun i hi b hb=>.inr ⟨i,hi,hb⟩⟩,h.low,h.len⟩
theorem RV.sub(h:RV N lo w g v d){b:Nat}(hb:RvB g v b):N b:=by
 rcases hb with rfl | ⟨i,hi,hb⟩
 ·exact h.bY.1
 ·exact h.bY.2 i hi b hb
end
def StmtP(z:Tz):Prop:=∀ (w0 w:World) (N:Nat->Prop) (lo g:Nat) (v:Nat->Value) (d:RS) (m:Nat) (k a:Int) (s:Bs) (n:Nat) (A:Option Addr) (la cA:Nat) (B:Option Addr) (lb cB:Nat),Below w0.heap.size w0 w->TIc True w0 z (nzC k a s n A la cA B lb cB) ->
  (∀ b,N b->w0.heap.size<=b)->RV N lo w g v d->(∀ i,i < 8->rvN d i<=m)->m+nbz z<=1099511627776 ->
  Calls Tryz.prog 31 #[.pointer (some ⟨g,0,none⟩),aO k a s n A la cA B lb cB] w (RStP N lo w g (rsB z d) (m+nbz z))
theorem RStP.more{N:Nat->Prop}{lo:Nat}{w:World}{g:Nat}{d:RS}{m m':Nat}{e:Ending}{w':World}(h:RStP N lo w g d m e w')(hm:m<=m'):RStP N lo w g d m' e w':=
 ⟨h.1,h.2.1,fun i hi=>Nat.le_trans (h.2.2.1 i hi) hm,h.2.2.2⟩
structure RvI(N:Nat->Prop)(lo:Nat)(w:World)(g:Nat)(v:Nat->Value)(cs:Array Value)(d:RS)(m:Nat)(wx:World):Prop where
 rv:RV (fun b=>(N b/\b < w.heap.size)\/w.heap.size < b) lo wx g v d
 le:∀ i,i < 8->rvN d i<=m
 up:Upd N w wx
 bx:Aa wx w.heap.size 26 cs
section
variable {N : Nat -> Prop} {lo : Nat} {w wx wy : World} {g : Nat} {v : Nat -> Value} {cs : Array Value} {d d' : RS} {m m' : Nat}
theorem RvI.of_ea(hR:RV N lo w g v d)(hle:∀ i,i < 8->rvN d i<=m){b:Option Int}(hE:AZ w wx g (v 0) (v 1) (v 2) (v 3) (v 4) (v 5) (v 6) (v 7) d b cs):RvI N lo w g v cs { d with bad:=b } m wx:=by
 refine ⟨(hR.mono (N':=fun b=>(N b/\b < w.heap.size)\/w.heap.size < b) fun b h1 h2=>.inl ⟨h1,h2⟩).exR hE.ev hE.up,fun i hi=>?_,hE.up.mono fun b hb=>hb ▸ hR.bY.1,hE.bx⟩;have:=hle i hi;have h8:i = 0\/i = 1\/i = 2\/i = 3\/i = 4\/i = 5\/i = 6\/i = 7:=V0;rcases h8 with rfl | rfl | rfl | rfl | rfl | rfl | rfl | rfl <;> exact this
theorem RvI.below(h:RvI N lo w g v cs d m wx)(hb:Below wx.heap.size wx wy):RvI N lo w g v cs d m wy:=
 ⟨h.rv.below hb,h.le,h.up.trans (Upd.of_below hb _),h.bx.below hb h.bx.lt⟩
theorem RvI.more(h:RvI N lo w g v cs d m wx)(hm:m<=m'):RvI N lo w g v cs d m' wx:=⟨h.rv,fun i hi=>Nat.le_trans (h.le i hi) hm,h.up,h.bx⟩
theorem RvI.notg(h:RvI N lo w g v cs d m wx):¬ w.heap.size=g:=fun e=>by
 rcases h.rv.bY.1 with h | h <;> omega
theorem RvI.notv(h:RvI N lo w g v cs d m wx)(i:Nat)(hi:i < 8):¬ (v i).ownBlock=some w.heap.size:=fun e=>by
 rcases h.rv.bY.2 i hi _ e with h | h <;> omega
theorem RvI.end_(h:RvI N lo w g v cs d m wx):RStP N lo w g d m (.returned (.tuple #[])) wx:=
 ⟨rfl,⟨v,h.rv.mono fun b hb _=>hb.imp (fun h=>h.1) fun h=>Nat.le_of_lt h⟩,h.le,h.up⟩
theorem RvI.row(h:RvI N lo w g v cs d m wx)(i:Nat)(hi:i < 8){w8:World}{u:Value}(hu:Upd (fun b=>(v i).ownBlock=some b) wx w8)(hown:w8.ownsRow lo (rvT i) (rvZ i) u (rvN d' i) (rvX d' i))(hat:u.ownBlock=(v i).ownBlock\/∃ b,u.ownBlock=some b/\wx.heap.size<=b)
  (hd:∀ j,j < 8->j≠i->rvN d' j=rvN d j/\rvX d' j=rvX d j) (hbad:d'.bad=d.bad) (hlen:d'.many.length=d'.fn.length) (hm:m<=m') (hmi:rvN d' i<=m') :
  RvI N lo w g (cK v i u) cs d' m' (w8.setCell ⟨g,rvC i,none⟩ u):=by
 have hlt:=h.bx.lt;obtain ⟨h1,h2⟩:=h.rv.row i hi hu hown hat hd hbad hlen (N':=fun b=>(N b/\b < w.heap.size)\/w.heap.size < b) (fun b hb=>hb) fun b hb _=>.inr V0
 refine ⟨h1,fun j hj=>?_,dm h.up h2 fun b hb hs=>?_,h.bx.upd h2 fun hb=>hb.elim (h.notv i hi) fun e=>h.notg e⟩
 ·by_cases hji:j=i
  ·rw [hji];exact hmi
  ·rw [(hd j hj hji).1];exact Nat.le_trans (h.le j hj) hm
 ·rcases hb with hb | hb
  ·rcases h.rv.bY.2 i hi b hb with h' | h'
   ·exact h'.1
   ·omega
  ·rcases h.rv.bY.1 with h' | h'
   ·rw [hb];exact h'.1
   ·omega
theorem RvI.zed(h:RvI N lo w g v cs d m wx)(i:Nat)(hi:i < 8){w8:World}(hu:Upd (fun b=>(v i).ownBlock=some b) wx w8) :
  Aa w8 w.heap.size 26 cs/\∃ x5 x6,Aa w8 g 70 #[v 0,v 1,v 2,v 3,v 4,x5,x6,v 5,v 6,v 7]:=by
 obtain ⟨ba,hb,_⟩:=h.rv.blk;exact ⟨h.bx.upd hu (h.notv i hi),_,_,hb.upd hu (h.rv.far i hi)⟩
end
theorem q2I:∀ l:List Bs,twB l=false↔l.Nodup
 | []=>by simp [twB]
 | s :: l=>by
  unfold twB;rw [List.nodup_cons,<-q2I l];simp
theorem q35{l:List Bs}{i:Nat}{x:Bs}(hx:l[i]?=some x):(l.take (i+1)).Nodup↔(l.take i).Nodup/\¬ x∈l.take i:=by
 rw [List.take_add_one,hx,Option.toList_some,List.nodup_append];constructor
 ·rintro ⟨h1,_,h3⟩;exact ⟨h1,fun h=>h3 x h x V3 rfl⟩
 ·rintro ⟨h1,h2⟩;refine ⟨h1,V3,fun a ha b hb=>?_⟩;obtain rfl:=List.mem_singleton.1 hb;intro e;subst e;exact h2 ha
theorem twice_(w:World)(A:Option Addr)(c:Nat)(l:List Bs)(hL:Af w A (l.map ai))(hc:l.length<=c)(hm:c<=maxLen) :
  Calls Tryz.prog 65 #[.slice A l.length c] w fun e w'=>e = .returned (.bool (twB l))/\Below w.heap.size w w':=by
 have hl:l.length<=maxLen:=Nat.le_trans hc hm;have hlm:l.length<=9223372036854775807:=hl;have hcm:c<=9223372036854775807:=hm;obtain ⟨res,hres⟩:∃ res,twB l=res:=⟨_,rfl⟩;rw [hres];have HL:=Hi hL;have Ad:=Hi hres;clear hL hres;go_enter Tryz.func65,Tryz.ntmps65;go_wp2_with fail
 go_loopw [3] (fun vi wr=>∃ i:Nat,i<=l.length/\vi = .int .i64 (i:Int)/\Hid (Below w.heap.size w wr)/\Hid ((l.take i).Nodup)) (fun vi _=>l.length - (intOf vi).toNat)
 case atStart=>exact ⟨0,V0,rfl,Hi (Below.refl _ _),Hi V3⟩
 case round=>
  obtain ⟨i,hi,rfl,HBr,HN⟩:=hrel;by_cases hlt:i < l.length
  ·obtain ⟨x,hx⟩:∃ x,l[i]?=some x:=⟨_,List.getElem?_eq_getElem hlt⟩;have hdr:Below wr.heap.size wr wr.drew:=Below.drew (Below.refl _ _);obtain ⟨wz,hwd⟩:∃ v,wr.drew=v:=⟨_,rfl⟩;rw [hwd] at hdr;have hbz:=HBr.out.trans (hdr.mono HBr.out.size);have f1:(l.map ai)[i]?=some (.string ⟨x.toArray⟩):=V03;obtain ⟨b,o,rfl,_,hcc⟩:=(HL.out.below hbz).at_ f1;have e1:=hcc _ _ f1;have htl:(l.take i).length=i:=VL;have hlies:Af wz (some ⟨b,o,none⟩) ((l.take i).map ai):=fun j u hj=>(HL.out.below hbz) j u (by
    rw [List.map_take,List.getElem?_take] at hj;split at hj
    ·exact hj
    ·cases hj)
   have hin:=q51 (some ⟨b,o,none⟩) c (l.take i) ⟨x.toArray⟩ wz hlies (by rw [htl];omega);rw [htl,show (ByteArray.mk x.toArray).data.toList=x from V3] at hin;obtain ⟨q,hq⟩:∃ q,(l.take i).contains x=q:=⟨_,rfl⟩;rw [hq] at hin;have HIN:=Hi hin;have HQ:=Hi hq;have HX:=Hi hx;have HBz:=Hi hbz;have j1:(0:Int)<=(i:Int):=V0;have j2:(i:Int)<=(l.length:Int):=V0;have j3:(i:Int)<=(c:Int):=V0;clear hcc f1 hlies hin hq hx hbz hdr htl;go_wp2_with fail
   refine HT.wp_region (Z:=fun w'=>w'=wz) (S:=fun _=>True) (st:=[]) V1 ?_;rw [hwd];clear hwd;refine HT.k 0 rfl VM rfl ?_;refine HT.k 1 rfl VM rfl ?_;refine HT.k 2 rfl VM rfl ?_;refine HT.k 3 rfl VM rfl ?_;refine HT.k 4 rfl VM rfl ?_;refine HT.k 5 rfl VM rfl ?_;refine HT.k 6 rfl VM rfl ?_;refine HT.one (i:=7) V1 rfl (fun K hK=>?_);go_simp;refine HIN.out.mono ?_;rintro e w' ⟨rfl,rfl⟩;(try dsimp only);refine hK.out _ _ rfl trivial ?_;clear hK K;(try simp only [HT.pS]);refine HT.done V1 ?_;cases q with
   | true=>
    have HR:=Hi (show true=res from by
     rw [<-Ad.out];cases ht:twB l with
     | true=>rfl
     | false=>
      have h1:=(q2I l).1 ht;have h2:(l.take (i+1)).Nodup:=h1.sublist (List.take_sublist _ _);exact absurd (List.contains_iff_mem.1 HQ.out) ((q35 HX.out).1 h2).2)
    go_wp2_with fail
    go_ret;exact ⟨congrArg (fun b=>Ending.returned (Value.bool b)) HR.out,HBz.out⟩
   | false=>
    have HN2:=Hi (show (l.take (i+1)).Nodup from (q35 HX.out).2 ⟨HN.out,fun h=>by have:=List.contains_iff_mem.2 h;rw [HQ.out] at this;cases this⟩);go_wp2_with fail
    go_roundw
    case rel=>exact ⟨i+1,V0,V7,HBz,HN2⟩
    case measure=>simp [intOf];omega
  ·have HR:=Hi (show false=res from by rw [<-Ad.out];exact ((q2I l).2 (by have h:=HN.out;rw [List.take_of_length_le V0] at h;exact h)).symm);go_wp2_with fail
   go_ret;exact ⟨congrArg (fun b=>Ending.returned (Value.bool b)) HR.out,HBr.out⟩
end Nm
end Go.Proofs.YtcgibpdjfgjldaaGreatDoor
