/- DERIVED. NmLo, NmStm. By an AI agent. -/
import Derived.Test.YtcgibpdjfgjldaaGreatDoorT16
set_option maxRecDepth 100000
set_option maxHeartbeats 8000000
set_option linter.unusedVariables false
set_option linter.unusedSimpArgs false
open Go Go.ChangeShapes Go.WideShapes Go.ChangeAt Go.RowKit
namespace Go.Proofs.YtcgibpdjfgjldaaGreatDoor
namespace Nm
open Lx Args Pa Sh
mutual
def nbz:Tz->Nat
 | .mk _ _ _ _ ps l=>ps.length+1+nbzs l
def nbzs:List Tz->Nat
 | []=>0
 | x :: l=>nbz x+nbzs l
end
theorem nbzs_drop:∀ (i:Nat) (l:List Tz),nbzs (l.drop i)<=nbzs l
 | 0,l=>by rw [List.drop_zero];exact Nat.le_refl _
 | i+1,[]=>V3
 | i+1,x :: l=>by
  rw [List.drop_succ_cons];have:=nbzs_drop i l;exact V1V
def StC(M:Nat):Prop:=∀ (z:Tz),SizeOf.sizeOf z < M->∀ (w0 w:World) (N:Nat->Prop) (lo g:Nat) (c:St) (m:Nat) (k a:Int) (s:Bs) (n:Nat) (A:Option Addr) (la cA:Nat) (B:Option Addr) (lb cB:Nat),Below w0.heap.size w0 w->TIc True w0 z (nzC k a s n A la cA B lb cB)->lenz z->(∀ b,N b->w0.heap.size<=b)->CK N lo w g c m->Sorts c.kn->m+nbz z<=1099511627776 ->
 Calls Tryz.prog 119 #[.pointer (some ⟨g,0,none⟩),nzA k a s n A la cA B lb cB] w (StatP N lo w g (stB z c) (m+nbz z))
theorem CK.sorts{N:Nat->Prop}{lo:Nat}{w:World}{g:Nat}{c:St}{m:Nat}(h:CK N lo w g c m):Sorts c.kn:=h.knp.sorts
theorem statements{M:Nat}(H:StC M)(w0 w:World)(N:Nat->Prop)(lo g:Nat)(c:St)(m:Nat)(A:Option Addr)(cA:Nat)(l:List Tz)(css:List (List Value))(hb:Below w0.heap.size w0 w)(hL:Lies w0 A css.flatten)(hS:TsIc True w0 l css)(hl:l.length<=maxLen)
  (hlz:lenzs l) (hsz:∀ (i:Nat) (x:Tz),l[i]?=some x->SizeOf.sizeOf x < M) (hN:∀ b,N b->w0.heap.size<=b) (hc:CK N lo w g c m) (hm:m+nbzs l<=1099511627776) :
  Calls Tryz.prog 93 #[.pointer (some ⟨g,0,none⟩),.slice A l.length cA] w (StatP N lo w g (stBs 0 l c) (m+nbzs l)):=by
 have hlm:l.length<=9223372036854775807:=hl;have HH:=Hi H;have HL:=Hi hL;have HS:=Hi hS;have HLZ:=Hi hlz;have HSZ:=Hi hsz;have HN:=Hi hN;have HM:=Hi hm;have HC0:=Hi (hc.mono (N':=New N w) fun b h _ _=>.inl h);have HB0:=Hi hb;obtain ⟨res,hres⟩:∃ res,stBs 0 l c=res:=⟨_,rfl⟩;rw [hres];have HRES:=Hi hres;obtain ⟨M0,hM0⟩:∃ M0,m+nbzs l=M0:=⟨_,rfl⟩;rw [hM0] at HM ⊢;have HMS:=Hi (show m+nbzs l<=M0 from V0);clear H hL hS hlz hsz hN hm hc hb hres hl hM0;go_enter Tryz.func93,Tryz.ntmps93;go_wp2_with fail
 go_loopw [8] (fun vi wr=>∃ (i:Nat) (ci:St) (mi:Nat),i<=l.length/\vi = .int .i64 (i:Int)/\Hid (CK (New N w) lo wr g ci mi)/\Hid (mi+nbzs (l.drop i)<=M0)/\Hid (Upd N w wr)/\Hid (Below w0.heap.size w0 wr)/\Hid (stBs 0 (l.drop i) ci=res)) (fun vi _=>l.length - (intOf vi).toNat)
 case atStart=>exact ⟨0,c,m,V0,rfl,HC0,Hi HMS.out,Hi (Upd.refl _ _),HB0,HRES⟩
 case round=>
  obtain ⟨i,ci,mi,hi,rfl,HC,HMI,HU,HBE,HQ⟩:=hrel;by_cases hlt:i < l.length
  ·have hil:(i:Int) < (l.length:Int):=by omega
   obtain ⟨y,hy⟩:∃ y,l[i]?=some y:=⟨_,List.getElem?_eq_getElem hlt⟩;obtain ⟨b,o,k',a',s',n',A',la',cA',B',lb',cB',rfl,hTy,hbl,g0,g1,g2,g3,g4,g5⟩:=q2C HBE.out HL.out HS.out hy;obtain ⟨wb,hwb,hbb,hXb,hsb⟩:=q05 wr (nB k' a' s' n' A' la' cA' B' lb' cB');have hq:=HQ.out;rw [drop_at hy,q1R] at hq;have hmi:=HMI.out;rw [drop_at hy] at hmi;unfold nbzs at hmi;have hCb:CK (fun b=>New N w b/\b < wr.heap.size) lo wb g ci mi:=(HC.out.mono (N':=fun b=>New N w b/\b < wr.heap.size) fun b h1 h2 _=>⟨h1,h2⟩).below hbb;have hC:=HH.out y (HSZ.out i y hy) w0 wb _ lo g ci mi k' a' s' n' A' la' cA' B' lb' cB' (HBE.out.trans (hbb.mono HBE.out.size)) hTy (q1V HLZ.out hy) (fun b hb=>hb.1.elim (HN.out b) fun h=>Nat.le_trans HB0.out.size h) hCb hCb.sorts VC;obtain ⟨⟨e0,e1,e2,e3,e4,e5⟩,z0,z1,z2,z3,z4,z5⟩:=Blk.c6 hXb;have HCC:=Hi hC;have HWB:=Hi hwb;have HQ2:=Hi hq;have HBB:=Hi hbb;have HMI2:=Hi hmi;have hsr:=HU.out.size;generalize nbz y=my at HCC HMI2;clear hC hwb hbb hXb hq hTy hy hCb hmi;generalize stB y ci=r2 at HCC HQ2;go_wp2_with fail
   rw [HWB.out];refine (show Calls Tryz.prog 119 #[.pointer (some ⟨g,0,none⟩),nzA k' a' s' n' A' la' cA' B' lb' cB'] wb _ from HCC.out).mono ?_;intro e w4 h4;cases r2 with
   | bad a2=>
    obtain ⟨rfl,hu4⟩:=h4;have HQ3:=Hi (show Rs.bad a2=res from HQ2.out);have HEND:=Hi (show StatP N lo w g res M0 (panW a2) w4 from by
     rw [<-HQ3.out];exact ⟨rfl,q01 (q01 HU.out (Upd.of_below HBB.out fun _=>False) fun _ h=>h.elim) hu4 fun b hb hlt=>hb.1.resolve_right V0⟩)
    exact VQ
   | ok c2=>
    obtain ⟨rfl,hc4,hu4⟩:=h4;have HC4:=Hi (hc4.mono (N':=New N w) fun b hb _ _=>hb.elim (fun h=>h.1) fun h=>.inr (Nat.le_trans hsr V0));have HU4:=Hi (q01 (q01 HU.out (Upd.of_below HBB.out fun _=>False) fun _ h=>h.elim) hu4 fun b hb hlt=>hb.1.resolve_right V0);have HB4:=Hi (q0S (HBE.out.trans (HBB.out.mono HBE.out.size)) hu4 fun b hb=>hb.1.elim (HN.out b) fun h=>Nat.le_trans HB0.out.size h);have HMI3:=Hi (show mi+my+nbzs (l.drop (i+1))<=M0 by have:=HMI2.out;omega);clear hc4 hu4;go_wp2_with fail
    go_roundw
    case rel=>exact ⟨i+1,c2,mi+my,V0,V7,HC4,HMI3,HU4,HB4,Hi HQ2.out⟩
    case measure=>simp [intOf];omega
  ·obtain rfl:i=l.length:=by omega
   have hq:=HQ.out;rw [List.drop_length,q3e] at hq;have hmi:=HMI.out;have HEND:=Hi (show StatP N lo w g res M0 (.returned (.tuple #[])) wr from by rw [<-hq];exact ⟨rfl,HC.out.more V0,HU.out⟩);clear hq;exact Vc
theorem q5J{q:Prop}{w0 w:World}{A:Option Addr}{l:List Tz}{css:List (List Value)}{k:Nat}{e:Ending}{w':World}(h:CutP w A l.length k e w')(hL:Lies w0 A css.flatten)(hS:TsIc q w0 l css) :
  ∃ A1 c1 A2 c2 css1 css2,e = .returned (.tuple #[.slice A1 (l.take k).length c1,.slice A2 (l.drop k).length c2])/\Lies w0 A1 css1.flatten/\TsIc q w0 (l.take k) css1/\Lies w0 A2 css2.flatten/\TsIc q w0 (l.drop k) css2/\Below w.heap.size w w':=by
 obtain ⟨A1,c1,A2,c2,rfl,h1,h2,hb⟩:=h;obtain ⟨h4,h5,h6,h7⟩:=q2I k hS;refine ⟨A1,c1,A2,c2,css.take k,css.drop k,by rw [List.length_take,List.length_drop],lies_take (h1 w0 _ hL) h7,h4,?_,h5,hb⟩;by_cases hlt:0 < l.length - k
 ·rw [<-h6];exact h2 hlt w0 _ hL
 ·exact V3k
def loopB(a:Int)(s:Bs)(l:List Tz)(c:St):Rs:=
 exR (exBs (wordB c.kn) (callB c.kn) (l.take 2)) (if namedB c.kn s=true then .bad a else
  bndR (stBs 2 l { c with kn:=c.kn.put s (3,0),en:=c.en ++ [s] }) fun d=>.ok { d with kn:=d.kn.dels (d.en.drop c.en.length),en:=d.en.take c.en.length })
theorem q6m(kn:Kn)(l:List Bs)(s:Bs):(kn.dels l).dels [s]=kn.dels (l ++ [s]):=by
 funext t
 unfold Kn.dels;by_cases h:t∈l <;> by_cases h2:t=s <;> simp [h,h2]
theorem loop{M:Nat}(H:StC M)(w0 w:World)(N:Nat->Prop)(lo g:Nat)(c:St)(m:Nat)(k a:Int)(s:Bs)(n:Nat)(A:Option Addr)(cA:Nat)(B:Option Addr)(lb cB:Nat)(l:List Tz)(css:List (List Value))(hb:Below w0.heap.size w0 w)(hL:Lies w0 A css.flatten)(hS:TsIc True w0 l css)(hlc:l.length<=cA/\cA<=maxLen)
  (hsz:∀ (i:Nat) (x:Tz),l[i]?=some x->SizeOf.sizeOf x < M) (hs:s.length<=maxLen) (hlz:lenzs l) (hN:∀ b,N b->w0.heap.size<=b) (hc:CK N lo w g c m) (hm:m+1+nbzs l<=1099511627776) :
  Calls Tryz.prog 146 #[.pointer (some ⟨g,0,none⟩),nzA k a s n A l.length cA B lb cB] w (StatP N lo w g (loopB a s l c) (m+1+nbzs l)):=by
 have HH:=Hi H;have HSZ:=Hi hsz;have HST:=Hi hS;have HNN:=Hi hN;have hS:=q0H hS;clear H hsz;obtain ⟨wn,hwn,hbn,hXn,hsn⟩:=q05 w (nB k a s n A l.length cA B lb cB);obtain ⟨⟨e0,e1,e2,e3,e4,e5⟩,z0,z1,z2,z3,z4,z5⟩:=Blk.c6 hXn;have HCU:=Hi (cut_ wn A l.length cA 2 hlc.1 hlc.2 V2);have HC0:=Hi (q0d hc hbn);have HU0:=Hi (Upd.of_below hbn N);have HX0:=Hi hXn;have HW:=Hi hwn;have HB0:=Hi (hb.trans (hbn.mono hb.size));have HL:=Hi hL;have HS:=Hi hS;have HLZ:=Hi hlz;have HM:=Hi hm;have HN:=Hi (q0R (w:=w) hN (Nat.le_trans hb.size hbn.size));have HSN:=Hi hsn;have hlm:l.length<=maxLen:=Nat.le_trans hlc.1 hlc.2;obtain ⟨res,hres⟩:∃ res,loopB a s l c=res:=⟨_,rfl⟩;rw [hres];have HRES:=Hi hres;have hgl:=hXn.lt;clear hc hbn hXn hwn hb hL hS hlz hm hN hlc hres hsn;go_enter Tryz.func146,Tryz.ntmps146;go_wp2_with fail
 rw [HW.out];refine (show Calls Tryz.prog 167 #[.slice A l.length cA,.int .i64 2] wn _ from HCU.out).mono ?_;intro e w1 hcp;obtain ⟨A1,c1,A2,c2,css1,css2,rfl,hL1,hS1,hL2,hS2,hb1⟩:=q5J hcp HL.out HST.out;have HX1:=Hi (HX0.out.below hb1 HX0.out.lt);have HC1:=Hi (HC0.out.below hb1);have HU1:=Hi (q01 HU0.out (Upd.of_below hb1 fun _=>False) fun _ h=>h.elim);have HB1:=Hi (HB0.out.trans (hb1.mono HB0.out.size));have hs1:=hb1.size;have HEX:=Hi (exprs w0 w1 g c.kn _ _ _ A1 c1 (l.take 2) css1 HB1.out hL1 (q0H hS1) (Nat.le_trans VV hlm) (lenzs_take 2 HLZ.out).1 HC1.out.knp (q3q HC1.out.knp));have HL2:=Hi hL2;have HS2:=Hi hS2;clear hcp hL1 hS1 hL2 hS2 hb1 HCU e0 e1 e2 e3 e4 e5 z0 z1 z2 z3 z4 z5;obtain ⟨⟨e0,e1,e2,e3,e4,e5⟩,z0,z1,z2,z3,z4,z5⟩:=Blk.c6 HX1.out;unfold loopB at HRES;generalize exBs (wordB c.kn) (callB c.kn) (l.take 2)=r1 at HEX HRES;generalize (l.take 2).length=n1 at HEX;obtain ⟨lb2,hlb2⟩:∃ lb2,l.drop 2=lb2:=⟨_,rfl⟩;have HLB:=Hi hlb2;rw [hlb2] at HS2 ⊢;clear hlb2;have hlb2m:lb2.length<=9223372036854775807:=by rw [<-HLB.out,List.length_drop];exact Nat.le_trans (Nat.sub_le _ _) hlm
 go_wp2_with fail
 refine (show Calls Tryz.prog 168 #[.pointer (some ⟨g,0,none⟩),.func (.func 170) #[.pointer (some ⟨g,0,none⟩)] #[],.slice A1 n1 c1] w1 _ from HEX.out).mono ?_;intro e w2 h2;cases r1 with
 | some a1=>
  obtain ⟨rfl,hb2⟩:=h2;have HEND:=Hi (show StatP N lo w g res (m+1+nbzs l) (panW a1) w2 from V3y);clear hb2;exact Vm
 | none=>
 obtain ⟨rfl,hb2⟩:=h2;have HX2:=Hi (HX1.out.below hb2 HX1.out.lt);have HC2:=Hi (HC1.out.below hb2);have HU2:=Hi (q01 HU1.out (Upd.of_below hb2 fun _=>False) fun _ h=>h.elim);have HB2:=Hi (HB1.out.trans (hb2.mono HB1.out.size));have hs2:=hb2.size;have hdr:Below w2.heap.size w2 w2.drew:=Below.drew (Below.refl _ _);obtain ⟨wd,hwd⟩:∃ v,w2.drew=v:=⟨_,rfl⟩;rw [hwd] at hdr;have HXd:=Hi (HX2.out.below hdr HX2.out.lt);have HCd:=Hi (HC2.out.below hdr);have HUd:=Hi (q01 HU2.out (Upd.of_below hdr fun _=>False) fun _ h=>h.elim);have HBd:=Hi (HB2.out.trans (hdr.mono HB2.out.size));have hsd:=hdr.size;have hZ0:Below wd.heap.size wd wd:=Below.refl _ _;have HIN:=Hi (isNamed wd g c.kn HCd.out.knp s hs);clear hb2 hdr e0 e1 e2 e3 e4 e5 z0 z1 z2 z3 z4 z5;go_wp2_with fail
 refine HT.wp_region (Z:=fun w'=>Below wd.heap.size wd w') (S:=fun _=>True) (st:=[]) V1 ?_;rw [hwd];clear hwd;refine HT.k 0 rfl Vk hZ0 ?_;refine HT.k 1 rfl Vk hZ0 ?_;refine HT.k 2 rfl Vk hZ0 ?_;refine HT.k 3 rfl Vk hZ0 ?_;refine HT.one (i:=4) V1 rfl (fun K hK=>?_);go_simp;refine HIN.out.mono ?_;rintro e w5 ⟨rfl,hb5⟩;(try dsimp only);refine hK.out _ _ hb5 trivial ?_;clear hK K;(try simp only [HT.pS]);have HR:=Hi (refuse w5 k a s n A l.length cA B lb cB (namedB c.kn s));obtain ⟨q,hq⟩:∃ q,namedB c.kn s=q:=⟨_,rfl⟩;rw [hq] at HR HRES ⊢;clear HIN hq;cases q with
 | true=>
  have HQ2:=Hi (show Rs.bad a=res from HRES.out);refine HT.one (i:=5) V1 rfl (fun K hK=>?_);go_simp;refine (show Calls Tryz.prog 162 #[nzA k a s n A l.length cA B lb cB,.bool true] w5 _ from HR.out).mono ?_;rintro e w6 ⟨rfl,hb6⟩;have HEND:=Hi (show StatP N lo w g res (m+1+nbzs l) (panW a) w6 from V2U);clear hb6;exact Vj
 | false=>
 refine HT.one (i:=5) V1 rfl (fun K hK=>?_);go_simp;refine (show Calls Tryz.prog 162 #[nzA k a s n A l.length cA B lb cB,.bool false] w5 _ from HR.out).mono ?_;rintro e w6 ⟨rfl,hb6⟩;have hz6:=hb5.trans (hb6.mono hb5.size);have HX6:=Hi (HXd.out.below hz6 HXd.out.lt);have HC6:=Hi (HCd.out.below hz6);have HU6:=Hi (q01 HUd.out (Upd.of_below hz6 fun _=>False) fun _ h=>h.elim);have HB6:=Hi (HBd.out.trans (hz6.mono HBd.out.size));have hs6:=hz6.size;clear hb6;(try dsimp only);refine hK.out _ _ hz6 trivial ?_;clear hK K;(try simp only [HT.pS]);refine HT.done V1 ?_;clear hb5 hz6 HR hZ0 HXd HCd HUd HBd HX2 HC2 HU2 HB2 HX1 HC1 HU1 HB1 HX0 HC0 HU0 HB0;obtain ⟨⟨vs,vp,vo,ve,kb,ob,hv⟩,_⟩:=HC6.out;obtain ⟨Ae,ce,rfl⟩:=q0x hv.oe;have c5:w6.cell? ⟨g,5,none⟩=some (.slice Ae c.en.length ce):=hv.blk.cell 5;have HNA:=Hi (name_ (In2 N w wn) lo w6 g c m HC6.out VC s hs 3 V2);obtain ⟨⟨e0,e1,e2,e3,e4,e5⟩,z0,z1,z2,z3,z4,z5⟩:=Blk.c6 HX6.out;clear hv;go_wp2_with fail
 refine (show Calls Tryz.prog 164 #[.pointer (some ⟨g,0,none⟩),.string ⟨s.toArray⟩,.int .i64 3] w6 _ from HNA.out).mono ?_;rintro e w7 ⟨rfl,hc7,hu7⟩;have HC7:=Hi (q1u hc7 (show wn.heap.size<=w6.heap.size from V0));have HU7:=Hi (q0i HU6.out hu7 V9);have HB7:=Hi (q0S HB6.out hu7 HN.out);have hs7:=hu7.size;obtain ⟨c1,hc1⟩:∃ c1:St,({ c with kn:=c.kn.put s (3,0),en:=c.en ++ [s] }:St)=c1:=⟨_,rfl⟩;rw [hc1] at HC7 HRES;have HST2:=Hi (statements HH.out w0 w7 (In2 N w wn) lo g c1 (m+1) A2 c2 lb2 css2 HB7.out HL2.out HS2.out hlb2m (by rw [<-HLB.out];exact (lenzs_take 2 HLZ.out).2) (fun i x hx=>HSZ.out (2+i) x (by rw [<-HLB.out,List.getElem?_drop] at hx;exact hx)) HN.out HC7.out (by have:=HM.out;have:=nbzs_drop 2 l;rw [HLB.out] at this;omega));have HSO:=Hi HC7.out.sorts;have HC1E:=Hi (show c1.en.length=c.en.length+1 by rw [<-hc1];simp);rw [q3I 2,HLB.out] at HRES;have HRES:Hid (bndR (stBs 0 lb2 c1) (fun d=>.ok { d with kn:=d.kn.dels (d.en.drop c.en.length),en:=d.en.take c.en.length })=res):=Hi HRES.out;have HEXT:=Hi (fun c3 (h:stBs 0 lb2 c1 = .ok c3)=>(q1B h HSO.out).1.len);have HML:=Hi (show nbzs lb2<=nbzs l by rw [<-HLB.out];exact nbzs_drop 2 l);generalize stBs 0 lb2 c1=r3 at HST2 HRES HEXT;clear hc7 hu7 hc1 HNA e0 e1 e2 e3 e4 e5 z0 z1 z2 z3 z4 z5 c5;go_wp2_with fail
 refine (show Calls Tryz.prog 93 #[.pointer (some ⟨g,0,none⟩),.slice A2 lb2.length c2] w7 _ from HST2.out).mono ?_;intro e w8 h8;cases r3 with
 | bad a3=>
  obtain ⟨rfl,hu8⟩:=h8;have HEND:=Hi (show StatP N lo w g res (m+1+nbzs l) (panW a3) w8 from by rw [<-HRES.out];exact ⟨rfl,q0i HU7.out hu8 V9⟩);clear hu8;exact Vm
 | ok c3=>
 obtain ⟨rfl,hc8,hu8⟩:=h8;have HC8:=Hi (q1u hc8 (show wn.heap.size<=w7.heap.size from V0));have HU8:=Hi (q0i HU7.out hu8 V9);have HB8:=Hi (q0S HB7.out hu8 HN.out);have hs8:=hu8.size;have HQ2:=Hi (show Rs.ok { c3 with kn:=c3.kn.dels (c3.en.drop c.en.length),en:=c3.en.take c.en.length }=res from HRES.out);have hlen:=HEXT.out c3 rfl;have hlen2:=HC1E.out;obtain ⟨⟨vs,vp,vo,ve,kb,ob,hv⟩,hbd⟩:=HC8.out;obtain ⟨Ae,ce,rfl⟩:=q0x hv.oe;have hsome:∃ ge,Ae=some ⟨ge,0,none⟩/\c3.en.length<=ce/\ce<=maxLen:=by
  rcases hv.oe.2 with ⟨h,h0⟩ | ⟨g',cap,cur,h,_,_,h1,h2,_⟩
  ·omega
  ·cases h;exact ⟨g',rfl,h1,h2⟩
 obtain ⟨ge,rfl,hce,hcm⟩:=hsome;have HV8:=Hi hv;have HBD:=Hi hbd;have hcmm:ce<=9223372036854775807:=hcm;obtain ⟨ah,hah⟩:∃ ah,c.en.length=ah:=⟨_,rfl⟩;rw [hah] at hlen2 HQ2 ⊢;have hah1:ah < c3.en.length:=V0;have hne:¬ ce=ah:=V0;have i1:(0:Int)<=(ah:Int):=V0;have i2:(ah:Int)<=(c3.en.length:Int):=V0;have c5:w8.cell? ⟨g,5,none⟩=some (.slice (some ⟨ge,0,none⟩) c3.en.length ce):=hv.blk.cell 5;have c3':w8.cell? ⟨g,3,none⟩=some (.map (some kb)):=hv.blk.cell 3;obtain ⟨dl,hdl⟩:∃ dl,c3.en.drop ah=dl:=⟨_,rfl⟩;have hdll:dl.length=c3.en.length - ah:=by rw [<-hdl];simp
 have hLd:Lies w8 (some ⟨ge,ah,none⟩) (dl.map strV):=fun j u hj=>by
  refine ⟨_,rfl,?_⟩;rw [Args.add_plain];have:=hv.oe.cells (g:=ge) rfl (ah+j) u (by rw [<-hdl,List.map_drop,List.getElem?_drop] at hj;exact hj);rw [Args.add_plain] at this;simpa using this
 have hgk:¬ ge=kb:=fun e=>hv.ne.2.1.2.2.2.2 (by rw [<-e];rfl)
 obtain ⟨nd,hnd⟩:∃ nd,c3.en.length - ah=nd:=⟨_,rfl⟩;rw [hnd] at hdll;have hndm:nd<=9223372036854775807:=V0;have HLD:=Hi hLd;have HDL:=Hi hdl;have HND:=Hi hdll;have HENL:=Hi HC8.out.enl;rw [hdl] at HQ2;clear hc8 hu8 hv hbd hah HEXT HST2 HC1E hlen hLd hdl hdll;go_wp2_with fail
 (try rw [hnd]);clear hnd
 go_loopw [45] (fun vi wr=>∃ i:Nat,i<=nd/\vi = .int .i64 (i:Int)/\Hid (CV (In2 N w wn) lo wr g vs vp vo (.slice (some ⟨ge,0,none⟩) c3.en.length ce) kb ob c3.se c3.pu c3.ou c3.en (c3.kn.dels (dl.take i)) (outF c3.ou) (m+1+nbzs lb2))/\Hid (Upd N w wr)/\Hid (Upd (fun b=>b=kb) w8 wr)) (fun vi _=>nd - (intOf vi).toNat)
 case atStart=>exact ⟨0,V0,rfl,Hi (by
  have h0:c3.kn.dels (dl.take 0)=c3.kn:=by funext t;simp [Kn.dels]
  rw [h0];exact HV8.out),HU8,Hi (Upd.refl _ _)⟩
 case round=>
  obtain ⟨i,hi,rfl,HV,HU,HK⟩:=hrel;have hv:=HV.out;have d3:wr.cell? ⟨g,3,none⟩=some (.map (some kb)):=hv.blk.cell 3;have d5:wr.cell? ⟨g,5,none⟩=some (.slice (some ⟨ge,0,none⟩) c3.en.length ce):=hv.blk.cell 5;have d5f:wr.frozen? ⟨g,5,none⟩=false:=hv.blk.frozen 5;have hgl2:=hv.blk.lt;by_cases hlt:i < nd
  ·obtain ⟨p,hp⟩:∃ p,dl[i]?=some p:=⟨_,List.getElem?_eq_getElem (by have:=HND.out;omega)⟩;have f1:(dl.map strV)[i]?=some (.string ⟨p.toArray⟩):=VB;obtain ⟨b',o',hbo,hbl,hc1⟩:=(HK.out.lies HLD.out fun b o e _ hx=>by cases e;exact hgk hx).at_ f1;cases hbo;have g1:=hc1 _ _ f1;have hpm:p.length<=maxLen:=HENL.out p (List.mem_of_mem_drop (by rw [HDL.out];exact List.mem_of_getElem? hp));obtain ⟨w9,hrun,hm9,ht9⟩:=hv.mp.del hpm 0;have hz9:Upd (fun b=>b=kb) wr w9:=q07 ht9 rfl;have HV9:Hid (CV (In2 N w wn) lo w9 g vs vp vo (.slice (some ⟨ge,0,none⟩) c3.en.length ce) kb ob c3.se c3.pu c3.ou c3.en (c3.kn.dels (dl.take (i+1))) (outF c3.ou) (m+1+nbzs lb2)):=Hi (by
    rw [q46 hp,<-q6m];exact hv.kn' hz9 hm9 (Nat.le_refl _))
   have HU9:=Hi (q0i HU.out (hz9.mono fun b hb=>hb ▸ hv.inN _ V3 kb rfl) V9);have HK9:=Hi (HK.out.trans hz9);clear hv hc1 f1 hp hm9 ht9 hz9 d5 d5f;go_wp2_with fail
   go_roundw
   case rel=>exact ⟨i+1,V0,V7,HV9,HU9,HK9⟩
   case measure=>simp [intOf];omega
  ·obtain rfl:i=nd:=by omega
   have htk:dl.take i=dl:=List.take_of_length_le (by have:=HND.out;omega);have hv2:=hv;rw [htk] at hv2;have i3:(ah:Int)<=(ce:Int):=V0;have hot:=q7A (k:=ah) hv2.oe V0 V3;have hown:wr.ownsRow lo 9 1 (.slice (some ⟨ge,0,none⟩) ah ce) (c3.en.take ah).length ((c3.en.take ah).map strV):=by
    rw [List.length_take,show min ah c3.en.length=ah from V0,List.map_take];rw [Nat.mul_one] at hot;exact hot
   have hfin:=hv2.ve' (en':=c3.en.take ah) (Upd.refl _ _) hown (.inl rfl);have HEND:=Hi (show StatP N lo w g res (m+1+nbzs l) (.returned (.tuple #[])) (wr.setCell ⟨g,5,none⟩ (.slice (some ⟨ge,0,none⟩) ah ce)) from by
    rw [<-HQ2.out];have hb:=HBD.out;have hml:=HML.out;have hsu:=HU.out.size;refine ⟨rfl,⟨⟨vs,vp,vo,_,kb,ob,(hfin.more (show m+1+nbzs lb2<=m+1+nbzs l from V0)).mono fun b hb _ _=>?_⟩,⟨by show c3.se.length<=_;omega,by show c3.pu.length<=_;omega,by show c3.ou.length<=_;omega,by show (c3.en.take ah).length<=_;rw [List.length_take];omega⟩,fun t ht=>HENL.out t (List.mem_of_mem_take ht)⟩,?_⟩
    ·rcases hb with (h | h) | h
     ·exact .inl h.1
     ·exact .inr V9
     ·exact .inr V0
    ·exact q0i HU.out ((Upd.refl _ wr).setCell (p:=⟨g,5,none⟩) (fun _=>hv.inN _ V3 g rfl) _) V9)
   clear hv hv2 hot hown hfin htk d3;exact Vc
theorem st6(w0 w:World)(N:Nat->Prop)(lo g:Nat)(c:St)(m:Nat)(a:Int)(s:Bs)(n:Nat)(A:Option Addr)(la cA:Nat)(B:Option Addr)(cB:Nat)(ps:List Bs)(hb:Below w0.heap.size w0 w)(hB:Lies w0 B (ps.map strV))(hps:ps.length<=maxLen)(hpl:∀ p∈ps,p.length<=maxLen)
  (hN:∀ b,N b->w0.heap.size<=b) (hc:CK N lo w g c m) (hm:m+ps.length<=1099511627776) :
  Calls Tryz.prog 119 #[.pointer (some ⟨g,0,none⟩),nzA 6 a s n A la cA B ps.length cB] w (StatP N lo w g (bndR (inB a ps c) fun d=>.ok { d with se:=d.se ++ ps }) (m+ps.length)):=by
 obtain ⟨i0,hi,hz⟩:=Option.map_eq_some_iff.1 infoS;have hz0:=congrArg (·.1) hz;have hz1:=congrArg (·.2.1) hz;have hz2:=congrArg (·.2.2) hz;have HI:=Hi hi;have HZ0:=Hi hz0;have HZ1:=Hi hz1;have HZ2:=Hi hz2;clear hi hz hz0 hz1 hz2;obtain ⟨wn,hwn,hbn,hXn,hsn⟩:=q05 w (nB 6 a s n A la cA B ps.length cB);have hpm:ps.length<=9223372036854775807:=hps;have hb0:=hb.trans (hbn.mono hb.size);have hC0:=q0d hc hbn;have HIN:=Hi (inputs w0 wn (In2 N w wn) lo g c m 6 a s n A la cA B cB ps hb0 hB hps hpl (q0R (w:=w) hN (Nat.le_trans hb.size hbn.size)) hC0 hm);have HC0:=Hi hC0;have HU0:=Hi (Upd.of_below hbn N);have HX0:=Hi hXn;have HW:=Hi hwn;have HB0:=Hi hb0;have HB:=Hi hB;have HM:=Hi hm;have HN:=Hi (q0R (w:=w) hN (Nat.le_trans hb.size hbn.size));have HSN:=Hi hsn;have HSE:=Hi (show c.se.length<=m from hc.bd.1);obtain ⟨res,hres⟩:∃ res,bndR (inB a ps c) (fun d=>.ok { d with se:=d.se ++ ps })=res:=⟨_,rfl⟩;rw [hres];have HRES:=Hi hres;have HEX:=Hi (fun d (h:inB a ps c = .ok d)=>(q3f h).2.1);generalize inB a ps c=r1 at HIN HRES HEX;obtain ⟨⟨e0,e1,e2,e3,e4,e5⟩,z0,z1,z2,z3,z4,z5⟩:=Blk.c6 hXn;clear hc hbn hXn hwn hb hB hpl hm hN hps hres hsn hb0 hC0;go_enter Tryz.func119,Tryz.ntmps119;go_wp2_with fail
 rw [HW.out];refine (show Calls Tryz.prog 142 #[.pointer (some ⟨g,0,none⟩),nzA 6 a s n A la cA B ps.length cB] wn _ from HIN.out).mono ?_;intro e w1 h1;clear e0 e1 e2 e3 e4 e5 z0 z1 z2 z3 z4 z5;cases r1 with
 | bad a1=>
  exact V2J
 | ok d=>
 obtain ⟨rfl,hc1,hu1⟩:=h1;have HQ2:=Hi (show Rs.ok { d with se:=d.se ++ ps }=res from HRES.out);have HC1:=Hi (q1u hc1 (Nat.le_refl _));have HU1:=Hi (q0i HU0.out hu1 V9);have HB1:=Hi (q0S HB0.out hu1 HN.out);have HX1:=Hi (HX0.out.upd hu1 fun h=>by
  exact V1A)
 have hs1:=hu1.size;have hdr:Below w1.heap.size w1 w1.drew:=Below.drew (Below.refl _ _);obtain ⟨wz,hwd⟩:∃ v,w1.drew=v:=⟨_,rfl⟩;rw [hwd] at hdr;have HXz:=Hi (HX1.out.below hdr HX1.out.lt);have HUz:=Hi (q01 HU1.out (Upd.of_below hdr fun _=>False) fun _ h=>h.elim);have HBz:=Hi (HB1.out.trans (hdr.mono HB1.out.size));obtain ⟨⟨vs,vp,vo,ve,kb,ob,hv⟩,hbd,henl⟩:=HC1.out.below hdr;have HVz:=Hi hv;have HBD:=Hi hbd;have HENL:=Hi henl;have hlse:d.se.length<=m:=by rw [HEX.out d rfl];exact HSE.out
 have HNV:=Hi (show ¬ (vs.ownBlock=some w.heap.size\/w.heap.size=g) from fun h=>by
  exact V3j)
 have HGV:=Hi (show vs.ownBlock≠some g by have h:=hv.ne;exact h.1.2.2.1);have hZ0:Upd (fun b=>vs.ownBlock=some b\/b=g) wz wz:=Upd.refl _ _;have hS0:Upd (fun b=>vs.ownBlock=some b) wz wz:=Upd.refl _ _;have HLz:=Hi (HB.out.below HBz.out);have hlo4:lo<=wz.heap.size:=hv.lo_.2.2.2;have hlim:m+ps.length<=1099511627776:=HM.out;clear hc1 hu1 hdr hv hbd henl HEX HRES;go_wp2_with fail
 refine HT.wp_region (Z:=fun w'=>Upd (fun b=>vs.ownBlock=some b\/b=g) wz w') (S:=fun w'=>Upd (fun b=>vs.ownBlock=some b) wz w') (st:=[12]) V1 ?_;rw [hwd];clear hwd;refine HT.tm 0 rfl hZ0 (fun _=>hS0) ?_;refine HT.tm 1 rfl hZ0 (fun _=>hS0) ?_;refine HT.tm 2 rfl hZ0 (fun _=>hS0) ?_;refine HT.tm 3 rfl hZ0 (fun _=>hS0) ?_;refine HT.tm 4 rfl hZ0 (fun _=>hS0) ?_;refine HT.ts 5 rfl V1q hZ0 hS0 ?_;refine HT.tk 6 rfl Vr hZ0 (fun _=>hS0) ?_;refine HT.tk 7 rfl Vr hZ0 (fun _=>hS0) ?_;refine HT.one (i:=8) V1 rfl (fun K hK=>?_);refine q1C rfl _ _ 24 rfl lo 9 i0 (.string ⟨#[]⟩) 1 16 Tryz.underlying24 HI.out HZ0.out HZ1.out HZ2.out rfl V2 vs d.se.length _ rfl HVz.out.os B ps.length cB (ps.map strV) rfl V3 HLz.out V45 Va V0 hlo4 ?_;intro v' w8 hown hgrow hat;obtain ⟨vA,vc,rfl⟩:=q0x hown;have hs8:Upd (fun b=>vs.ownBlock=some b) wz w8:=hS0.grown hgrow fun b hb _=>hb
 have hz8:Upd (fun b=>vs.ownBlock=some b\/b=g) wz w8:=hs8.mono fun b hb=>.inl hb
 (try dsimp only);refine hK.out _ _ hz8 hs8 ?_;clear hK K;(try simp only [HT.pS]);refine HT.tm 9 rfl hz8 (fun _=>hs8) ?_;refine HT.tm 10 rfl hz8 (fun _=>hs8) ?_;refine HT.tm 11 rfl hz8 (fun _=>hs8) ?_;have hG8:=HVz.out.blk.upd hs8 HGV.out;obtain ⟨⟨c0,c1,c2,c3,c4,c5⟩,y0,y1,y2,y3,y4,y5⟩:=Blk.c6 hG8;have hg8:=hG8.lt;refine HT.oneS (i:=12) V1 V1 rfl (fun K hK=>?_);go_simp;refine hK.out _ _ (hz8.setCell (p:=⟨g,0,none⟩) (fun _=>.inr rfl) _) ?_;clear hK K;(try simp only [HT.pS]);refine HT.done V1 ?_;have hown':w8.ownsRow lo 9 1 (.slice vA (d.se.length+ps.length) vc) (d.se ++ ps).length ((d.se ++ ps).map strV):=by
  rw [List.length_append,List.map_append];exact hown
 have hfin:=HVz.out.vs' (se':=d.se ++ ps) hs8 hown' (hat.imp id fun h=>⟨_,Nat.le_refl _,h⟩);have HEND:=Hi (show StatP N lo w g res (m+ps.length) (.returned (.tuple #[])) (w8.setCell ⟨g,0,none⟩ (.slice vA (d.se.length+ps.length) vc)) from by
  rw [<-HQ2.out];have hb:=HBD.out;refine ⟨rfl,⟨⟨_,vp,vo,ve,kb,ob,hfin.mono fun b hb _ _=>?_⟩,⟨by show (d.se ++ ps).length<=_;rw [List.length_append];omega,hb.2.1,hb.2.2.1,hb.2.2.2⟩,HENL.out⟩,?_⟩
  ·exact V1m
  ·exact q0i HUz.out ((hs8.mono (Y:=In2 N w wn) fun b hb=>HVz.out.inN _ V3 b hb).setCell (p:=⟨g,0,none⟩) (fun _=>HVz.out.inN _ V3 g rfl) _) V9)
 clear hown hown' hat hfin hgrow hs8 hz8 hG8 c0 c1 c2 c3 c4 c5 y0 y1 y2 y3 y4 y5 hg8 hZ0 hS0;go_wp2_with fail
 first | go_end0 | skip
 all_goals first | exact HEND.out | exact bodyPost_ret (results_none rfl _ _ _) rfl HEND.out
theorem st7(w0 w:World)(N:Nat->Prop)(lo g:Nat)(c:St)(m:Nat)(a:Int)(s:Bs)(n:Nat)(A:Option Addr)(la cA:Nat)(B:Option Addr)(cB:Nat)(ps:List Bs)(hb:Below w0.heap.size w0 w)(hB:Lies w0 B (ps.map strV))(hps:ps.length<=maxLen)(hpl:∀ p∈ps,p.length<=maxLen)
  (hN:∀ b,N b->w0.heap.size<=b) (hc:CK N lo w g c m) (hm:m+ps.length<=1099511627776) :
  Calls Tryz.prog 119 #[.pointer (some ⟨g,0,none⟩),nzA 7 a s n A la cA B ps.length cB] w (StatP N lo w g (bndR (inB a ps c) fun d=>.ok { d with pu:=d.pu ++ ps }) (m+ps.length)):=by
 obtain ⟨i0,hi,hz⟩:=Option.map_eq_some_iff.1 infoS;have hz0:=congrArg (·.1) hz;have hz1:=congrArg (·.2.1) hz;have hz2:=congrArg (·.2.2) hz;have HI:=Hi hi;have HZ0:=Hi hz0;have HZ1:=Hi hz1;have HZ2:=Hi hz2;clear hi hz hz0 hz1 hz2;obtain ⟨wn,hwn,hbn,hXn,hsn⟩:=q05 w (nB 7 a s n A la cA B ps.length cB);have hpm:ps.length<=9223372036854775807:=hps;have hb0:=hb.trans (hbn.mono hb.size);have hC0:=q0d hc hbn;have HIN:=Hi (inputs w0 wn (In2 N w wn) lo g c m 7 a s n A la cA B cB ps hb0 hB hps hpl (q0R (w:=w) hN (Nat.le_trans hb.size hbn.size)) hC0 hm);have HC0:=Hi hC0;have HU0:=Hi (Upd.of_below hbn N);have HX0:=Hi hXn;have HW:=Hi hwn;have HB0:=Hi hb0;have HB:=Hi hB;have HM:=Hi hm;have HN:=Hi (q0R (w:=w) hN (Nat.le_trans hb.size hbn.size));have HSN:=Hi hsn;have HSE:=Hi (show c.pu.length<=m from hc.bd.2.1);obtain ⟨res,hres⟩:∃ res,bndR (inB a ps c) (fun d=>.ok { d with pu:=d.pu ++ ps })=res:=⟨_,rfl⟩;rw [hres];have HRES:=Hi hres;have HEX:=Hi (fun d (h:inB a ps c = .ok d)=>(q3f h).2.2.1);generalize inB a ps c=r1 at HIN HRES HEX;obtain ⟨⟨e0,e1,e2,e3,e4,e5⟩,z0,z1,z2,z3,z4,z5⟩:=Blk.c6 hXn;clear hc hbn hXn hwn hb hB hpl hm hN hps hres hsn hb0 hC0;go_enter Tryz.func119,Tryz.ntmps119;go_wp2_with fail
 rw [HW.out];refine (show Calls Tryz.prog 142 #[.pointer (some ⟨g,0,none⟩),nzA 7 a s n A la cA B ps.length cB] wn _ from HIN.out).mono ?_;intro e w1 h1;clear e0 e1 e2 e3 e4 e5 z0 z1 z2 z3 z4 z5;cases r1 with
 | bad a1=>
  exact V2J
 | ok d=>
 obtain ⟨rfl,hc1,hu1⟩:=h1;have HQ2:=Hi (show Rs.ok { d with pu:=d.pu ++ ps }=res from HRES.out);have HC1:=Hi (q1u hc1 (Nat.le_refl _));have HU1:=Hi (q0i HU0.out hu1 V9);have HB1:=Hi (q0S HB0.out hu1 HN.out);have HX1:=Hi (HX0.out.upd hu1 fun h=>by
  exact V1A)
 have hs1:=hu1.size;have hdr:Below w1.heap.size w1 w1.drew:=Below.drew (Below.refl _ _);obtain ⟨wz,hwd⟩:∃ v,w1.drew=v:=⟨_,rfl⟩;rw [hwd] at hdr;have HXz:=Hi (HX1.out.below hdr HX1.out.lt);have HUz:=Hi (q01 HU1.out (Upd.of_below hdr fun _=>False) fun _ h=>h.elim);have HBz:=Hi (HB1.out.trans (hdr.mono HB1.out.size));obtain ⟨⟨vs,vp,vo,ve,kb,ob,hv⟩,hbd,henl⟩:=HC1.out.below hdr;have HVz:=Hi hv;have HBD:=Hi hbd;have HENL:=Hi henl;have hlse:d.pu.length<=m:=by rw [HEX.out d rfl];exact HSE.out
 have HNV:=Hi (show ¬ (vp.ownBlock=some w.heap.size\/w.heap.size=g) from fun h=>by
  exact V3j)
 have HGV:=Hi (show vp.ownBlock≠some g by have h:=hv.ne;exact h.1.2.2.2.1);have hZ0:Upd (fun b=>vp.ownBlock=some b\/b=g) wz wz:=Upd.refl _ _;have hS0:Upd (fun b=>vp.ownBlock=some b) wz wz:=Upd.refl _ _;have HLz:=Hi (HB.out.below HBz.out);have hlo4:lo<=wz.heap.size:=hv.lo_.2.2.2;have hlim:m+ps.length<=1099511627776:=HM.out;clear hc1 hu1 hdr hv hbd henl HEX HRES;go_wp2_with fail
 refine HT.wp_region (Z:=fun w'=>Upd (fun b=>vp.ownBlock=some b\/b=g) wz w') (S:=fun w'=>Upd (fun b=>vp.ownBlock=some b) wz w') (st:=[12]) V1 ?_;rw [hwd];clear hwd;refine HT.tm 0 rfl hZ0 (fun _=>hS0) ?_;refine HT.tm 1 rfl hZ0 (fun _=>hS0) ?_;refine HT.tm 2 rfl hZ0 (fun _=>hS0) ?_;refine HT.tm 3 rfl hZ0 (fun _=>hS0) ?_;refine HT.tm 4 rfl hZ0 (fun _=>hS0) ?_;refine HT.ts 5 rfl V1q hZ0 hS0 ?_;refine HT.tk 6 rfl Vr hZ0 (fun _=>hS0) ?_;refine HT.tk 7 rfl Vr hZ0 (fun _=>hS0) ?_;refine HT.one (i:=8) V1 rfl (fun K hK=>?_);refine q1C rfl _ _ 24 rfl lo 9 i0 (.string ⟨#[]⟩) 1 16 Tryz.underlying24 HI.out HZ0.out HZ1.out HZ2.out rfl V2 vp d.pu.length _ rfl HVz.out.op B ps.length cB (ps.map strV) rfl V3 HLz.out V45 Va V0 hlo4 ?_;intro v' w8 hown hgrow hat;obtain ⟨vA,vc,rfl⟩:=q0x hown;have hs8:Upd (fun b=>vp.ownBlock=some b) wz w8:=hS0.grown hgrow fun b hb _=>hb
 have hz8:Upd (fun b=>vp.ownBlock=some b\/b=g) wz w8:=hs8.mono fun b hb=>.inl hb
 (try dsimp only);refine hK.out _ _ hz8 hs8 ?_;clear hK K;(try simp only [HT.pS]);refine HT.tm 9 rfl hz8 (fun _=>hs8) ?_;refine HT.tm 10 rfl hz8 (fun _=>hs8) ?_;refine HT.tm 11 rfl hz8 (fun _=>hs8) ?_;have hG8:=HVz.out.blk.upd hs8 HGV.out;obtain ⟨⟨c0,c1,c2,c3,c4,c5⟩,y0,y1,y2,y3,y4,y5⟩:=Blk.c6 hG8;have hg8:=hG8.lt;refine HT.oneS (i:=12) V1 V1 rfl (fun K hK=>?_);go_simp;refine hK.out _ _ (hz8.setCell (p:=⟨g,1,none⟩) (fun _=>.inr rfl) _) ?_;clear hK K;(try simp only [HT.pS]);refine HT.done V1 ?_;have hown':w8.ownsRow lo 9 1 (.slice vA (d.pu.length+ps.length) vc) (d.pu ++ ps).length ((d.pu ++ ps).map strV):=by
  rw [List.length_append,List.map_append];exact hown
 have hfin:=HVz.out.vp' (pu':=d.pu ++ ps) hs8 hown' (hat.imp id fun h=>⟨_,Nat.le_refl _,h⟩);have HEND:=Hi (show StatP N lo w g res (m+ps.length) (.returned (.tuple #[])) (w8.setCell ⟨g,1,none⟩ (.slice vA (d.pu.length+ps.length) vc)) from by
  rw [<-HQ2.out];have hb:=HBD.out;refine ⟨rfl,⟨⟨vs,_,vo,ve,kb,ob,hfin.mono fun b hb _ _=>?_⟩,⟨hb.1,by show (d.pu ++ ps).length<=_;rw [List.length_append];omega,hb.2.2.1,hb.2.2.2⟩,HENL.out⟩,?_⟩
  ·exact V1m
  ·exact q0i HUz.out ((hs8.mono (Y:=In2 N w wn) fun b hb=>HVz.out.inN _ V3 b hb).setCell (p:=⟨g,1,none⟩) (fun _=>HVz.out.inN _ V3 g rfl) _) V9)
 clear hown hown' hat hfin hgrow hs8 hz8 hG8 c0 c1 c2 c3 c4 c5 y0 y1 y2 y3 y4 y5 hg8 hZ0 hS0;go_wp2_with fail
 first | go_end0 | skip
 all_goals first | exact HEND.out | exact bodyPost_ret (results_none rfl _ _ _) rfl HEND.out
theorem st12(w:World)(N:Nat->Prop)(lo g:Nat)(c:St)(m:Nat)(k a:Int)(s:Bs)(n:Nat)(A:Option Addr)(la cA:Nat)(B:Option Addr)(lb cB:Nat)(r:Rs)(m':Nat)(hk:k = 12)(hc:CK N lo w g c m)
  (hC:∀ wn,Below w.heap.size w wn->Calls Tryz.prog 143 #[.pointer (some ⟨g,0,none⟩),nzA k a s n A la cA B lb cB] wn (StatP (In2 N w wn) lo wn g r m')) :
  Calls Tryz.prog 119 #[.pointer (some ⟨g,0,none⟩),nzA k a s n A la cA B lb cB] w (StatP N lo w g r m'):=by
 obtain ⟨wn,hwn,hbn,hXn,hsn⟩:=q05 w (nB k a s n A la cA B lb cB);have HIN:=Hi (hC wn hbn);have HU0:=Hi (Upd.of_below hbn N);have HW:=Hi hwn;have HSN:=Hi hsn;obtain ⟨⟨e0,e1,e2,e3,e4,e5⟩,z0,z1,z2,z3,z4,z5⟩:=Blk.c6 hXn;clear hc hbn hXn hwn hsn hC;subst hk;go_enter Tryz.func119,Tryz.ntmps119;go_wp2_with fail
 rw [HW.out];refine (show Calls Tryz.prog 143 #[.pointer (some ⟨g,0,none⟩),nzA 12 a s n A la cA B lb cB] wn _ from HIN.out).mono ?_;intro e w1 h1;clear e0 e1 e2 e3 e4 e5 z0 z1 z2 z3 z4 z5;cases r with
 | bad a1=>
  exact V0c
 | ok d=>
  exact V0b
theorem st10(w:World)(N:Nat->Prop)(lo g:Nat)(c:St)(m:Nat)(k a:Int)(s:Bs)(n:Nat)(A:Option Addr)(la cA:Nat)(B:Option Addr)(lb cB:Nat)(r:Rs)(m':Nat)(hk:k = 10)(hc:CK N lo w g c m)
  (hC:∀ wn,Below w.heap.size w wn->Calls Tryz.prog 144 #[.pointer (some ⟨g,0,none⟩),nzA k a s n A la cA B lb cB] wn (StatP (In2 N w wn) lo wn g r m')) :
  Calls Tryz.prog 119 #[.pointer (some ⟨g,0,none⟩),nzA k a s n A la cA B lb cB] w (StatP N lo w g r m'):=by
 obtain ⟨wn,hwn,hbn,hXn,hsn⟩:=q05 w (nB k a s n A la cA B lb cB);have HIN:=Hi (hC wn hbn);have HU0:=Hi (Upd.of_below hbn N);have HW:=Hi hwn;have HSN:=Hi hsn;obtain ⟨⟨e0,e1,e2,e3,e4,e5⟩,z0,z1,z2,z3,z4,z5⟩:=Blk.c6 hXn;clear hc hbn hXn hwn hsn hC;subst hk;go_enter Tryz.func119,Tryz.ntmps119;go_wp2_with fail
 rw [HW.out];refine (show Calls Tryz.prog 144 #[.pointer (some ⟨g,0,none⟩),nzA 10 a s n A la cA B lb cB] wn _ from HIN.out).mono ?_;intro e w1 h1;clear e0 e1 e2 e3 e4 e5 z0 z1 z2 z3 z4 z5;cases r with
 | bad a1=>
  exact V0c
 | ok d=>
  exact V0b
theorem st8(w:World)(N:Nat->Prop)(lo g:Nat)(c:St)(m:Nat)(k a:Int)(s:Bs)(n:Nat)(A:Option Addr)(la cA:Nat)(B:Option Addr)(lb cB:Nat)(r:Rs)(m':Nat)(hk:k = 8)(hc:CK N lo w g c m)
  (hC:∀ wn,Below w.heap.size w wn->Calls Tryz.prog 145 #[.pointer (some ⟨g,0,none⟩),nzA k a s n A la cA B lb cB] wn (StatP (In2 N w wn) lo wn g r m')) :
  Calls Tryz.prog 119 #[.pointer (some ⟨g,0,none⟩),nzA k a s n A la cA B lb cB] w (StatP N lo w g r m'):=by
 obtain ⟨wn,hwn,hbn,hXn,hsn⟩:=q05 w (nB k a s n A la cA B lb cB);have HIN:=Hi (hC wn hbn);have HU0:=Hi (Upd.of_below hbn N);have HW:=Hi hwn;have HSN:=Hi hsn;obtain ⟨⟨e0,e1,e2,e3,e4,e5⟩,z0,z1,z2,z3,z4,z5⟩:=Blk.c6 hXn;clear hc hbn hXn hwn hsn hC;subst hk;go_enter Tryz.func119,Tryz.ntmps119;go_wp2_with fail
 rw [HW.out];refine (show Calls Tryz.prog 145 #[.pointer (some ⟨g,0,none⟩),nzA 8 a s n A la cA B lb cB] wn _ from HIN.out).mono ?_;intro e w1 h1;clear e0 e1 e2 e3 e4 e5 z0 z1 z2 z3 z4 z5;cases r with
 | bad a1=>
  exact V0c
 | ok d=>
  exact V0b
theorem st9(w:World)(N:Nat->Prop)(lo g:Nat)(c:St)(m:Nat)(k a:Int)(s:Bs)(n:Nat)(A:Option Addr)(la cA:Nat)(B:Option Addr)(lb cB:Nat)(r:Rs)(m':Nat)(hk:k = 9)(hc:CK N lo w g c m)
  (hC:∀ wn,Below w.heap.size w wn->Calls Tryz.prog 145 #[.pointer (some ⟨g,0,none⟩),nzA k a s n A la cA B lb cB] wn (StatP (In2 N w wn) lo wn g r m')) :
  Calls Tryz.prog 119 #[.pointer (some ⟨g,0,none⟩),nzA k a s n A la cA B lb cB] w (StatP N lo w g r m'):=by
 obtain ⟨wn,hwn,hbn,hXn,hsn⟩:=q05 w (nB k a s n A la cA B lb cB);have HIN:=Hi (hC wn hbn);have HU0:=Hi (Upd.of_below hbn N);have HW:=Hi hwn;have HSN:=Hi hsn;obtain ⟨⟨e0,e1,e2,e3,e4,e5⟩,z0,z1,z2,z3,z4,z5⟩:=Blk.c6 hXn;clear hc hbn hXn hwn hsn hC;subst hk;go_enter Tryz.func119,Tryz.ntmps119;go_wp2_with fail
 rw [HW.out];refine (show Calls Tryz.prog 145 #[.pointer (some ⟨g,0,none⟩),nzA 9 a s n A la cA B lb cB] wn _ from HIN.out).mono ?_;intro e w1 h1;clear e0 e1 e2 e3 e4 e5 z0 z1 z2 z3 z4 z5;cases r with
 | bad a1=>
  exact V0c
 | ok d=>
  exact V0b
theorem st11(w:World)(N:Nat->Prop)(lo g:Nat)(c:St)(m:Nat)(k a:Int)(s:Bs)(n:Nat)(A:Option Addr)(la cA:Nat)(B:Option Addr)(lb cB:Nat)(r:Rs)(m':Nat)(hk:k = 11)(hc:CK N lo w g c m)
  (hC:∀ wn,Below w.heap.size w wn->Calls Tryz.prog 146 #[.pointer (some ⟨g,0,none⟩),nzA k a s n A la cA B lb cB] wn (StatP (In2 N w wn) lo wn g r m')) :
  Calls Tryz.prog 119 #[.pointer (some ⟨g,0,none⟩),nzA k a s n A la cA B lb cB] w (StatP N lo w g r m'):=by
 obtain ⟨wn,hwn,hbn,hXn,hsn⟩:=q05 w (nB k a s n A la cA B lb cB);have HIN:=Hi (hC wn hbn);have HU0:=Hi (Upd.of_below hbn N);have HW:=Hi hwn;have HSN:=Hi hsn;obtain ⟨⟨e0,e1,e2,e3,e4,e5⟩,z0,z1,z2,z3,z4,z5⟩:=Blk.c6 hXn;clear hc hbn hXn hwn hsn hC;subst hk;go_enter Tryz.func119,Tryz.ntmps119;go_wp2_with fail
 rw [HW.out];refine (show Calls Tryz.prog 146 #[.pointer (some ⟨g,0,none⟩),nzA 11 a s n A la cA B lb cB] wn _ from HIN.out).mono ?_;intro e w1 h1;clear e0 e1 e2 e3 e4 e5 z0 z1 z2 z3 z4 z5;cases r with
 | bad a1=>
  exact V0c
 | ok d=>
  exact V0b
theorem stX(w:World)(N:Nat->Prop)(lo g:Nat)(c:St)(m:Nat)(k a:Int)(s:Bs)(n:Nat)(A:Option Addr)(la cA:Nat)(B:Option Addr)(lb cB:Nat)(hk:k≠6/\k≠7/\k≠12/\k≠10/\k≠8/\k≠9/\k≠11)(hc:CK N lo w g c m) :
  Calls Tryz.prog 119 #[.pointer (some ⟨g,0,none⟩),nzA k a s n A la cA B lb cB] w (StatP N lo w g (.ok c) m):=by
 obtain ⟨wn,hwn,hbn,hXn,hsn⟩:=q05 w (nB k a s n A la cA B lb cB);have HC0:=Hi (q0d hc hbn);have HU0:=Hi (Upd.of_below hbn N);have HW:=Hi hwn;have HSN:=Hi hsn;obtain ⟨⟨e0,e1,e2,e3,e4,e5⟩,z0,z1,z2,z3,z4,z5⟩:=Blk.c6 hXn;obtain ⟨k6,k7,k12,k10,k8,k9,k11⟩:=hk;have j6:(k==6)=false:=V4;have j7:(k==7)=false:=V4;have j12:(k==12)=false:=V4;have j10:(k==10)=false:=V4;have j8:(k==8)=false:=V4;have j9:(k==9)=false:=V4;have j11:(k==11)=false:=V4;have HEND:=Hi (show StatP N lo w g (.ok c) m (.returned (.tuple #[])) wn from ⟨rfl,q2f HC0.out V9,HU0.out⟩);clear hc hbn hXn hwn hsn k6 k7 k12 k10 k8 k9 k11;go_enter Tryz.func119,Tryz.ntmps119;go_wp2_with fail
 rw [HW.out]
 first | go_end0 | skip
 all_goals first | exact HEND.out | exact bodyPost_ret (results_none rfl _ _ _) rfl HEND.out
theorem StatP.more{N:Nat->Prop}{lo:Nat}{w:World}{g:Nat}{r:Rs}{m m':Nat}{e:Ending}{w':World}(h:StatP N lo w g r m e w')(hm:m<=m'):StatP N lo w g r m' e w':=by
 cases r with
 | bad a=>exact h
 | ok c=>exact ⟨h.1,h.2.1.more hm,h.2.2⟩
theorem statement:∀ M,StC M
 | 0=>fun z h=>absurd h (Nat.not_lt_zero _)
 | M+1=>by
  intro z hM w0 w N lo g c m k a s n A la cA B lb cB hb hT hlz hN hc hso hm;obtain ⟨k1,a1,s1,n1,ps,l⟩:=z;have hcap:=q4A hT;obtain ⟨rfl,rfl,rfl,rfl,rfl,rfl,hl,hp,hB,_⟩:=q0O hT;have hT2:=hT;unfold TIc at hT2;obtain ⟨A1,cA1,B1,cB1,h1,_,_,_,css,hL,hS,_⟩:=hT2;unfold nzC at h1;simp only [List.cons.injEq,Value.slice.injEq,true_and,and_true] at h1;obtain ⟨⟨rfl,rfl⟩,rfl,rfl⟩:=h1;obtain ⟨hs,hpl,hls⟩:=q17 hlz;have hsz:∀ (i:Nat) (x:Tz),l[i]?=some x->SizeOf.sizeOf x < M:=fun i x h=>by
   have:=q0m (k:=k) (a:=a) (n:=n) (s:=s) (ps:=ps) h;omega
  have hnb:nbz (.mk k a s n ps l)=ps.length+1+nbzs l:=rfl;have hlow:∀ wn,Below w.heap.size w wn->∀ b,In2 N w wn b->w0.heap.size<=b:=fun wn hbn=>q0R hN (Nat.le_trans hb.size hbn.size)
  unfold stB;by_cases h6:k = 6
  ·subst h6;rw [if_pos rfl];exact (st6 w0 w N lo g c m a s n A l.length cA B cB ps hb hB hp hpl hN hc V0).mono fun e w' h=>h.more V0
  rw [if_neg h6];by_cases h7:k = 7
  ·subst h7;rw [if_pos rfl];exact (st7 w0 w N lo g c m a s n A l.length cA B cB ps hb hB hp hpl hN hc V0).mono fun e w' h=>h.more V0
  rw [if_neg h7];by_cases h12:k = 12
  ·rw [if_pos h12];exact st12 w N lo g c m k a s n A l.length cA B ps.length cB _ _ h12 hc fun wn hbn=>(function w0 wn (In2 N w wn) lo g c m k a s n A cA B cB ps l css (hb.trans (hbn.mono hb.size)) hL (q0H hS) hcap hB hp hpl hs hls (hlow wn hbn) (q0d hc hbn) V0).mono fun e w' h=>h.more V0
  rw [if_neg h12];by_cases h10:k = 10
  ·rw [if_pos h10];exact st10 w N lo g c m k a s n A l.length cA B ps.length cB _ _ h10 hc fun wn hbn=>(let_ w0 wn (In2 N w wn) lo g c m k a s n A cA B ps.length cB l css (hb.trans (hbn.mono hb.size)) hL (q0H hS) hcap hs hls (hlow wn hbn) (q0d hc hbn) V0).mono fun e w' h=>h.more V0
  rw [if_neg h10];by_cases h8:k = 8
  ·rw [if_pos (.inl h8)];exact st8 w N lo g c m k a s n A l.length cA B ps.length cB _ _ h8 hc fun wn hbn=>(output w0 wn (In2 N w wn) lo g c m k a s n A cA B ps.length cB l css (hb.trans (hbn.mono hb.size)) hL (q0H hS) hcap hs hls (hlow wn hbn) (q0d hc hbn) V0).mono fun e w' h=>h.more V0
  by_cases h9:k = 9
  ·rw [if_pos (.inr h9)];exact st9 w N lo g c m k a s n A l.length cA B ps.length cB _ _ h9 hc fun wn hbn=>(output w0 wn (In2 N w wn) lo g c m k a s n A cA B ps.length cB l css (hb.trans (hbn.mono hb.size)) hL (q0H hS) hcap hs hls (hlow wn hbn) (q0d hc hbn) V0).mono fun e w' h=>h.more V0
  rw [if_neg V0];by_cases h11:k = 11
  ·rw [if_pos h11];exact st11 w N lo g c m k a s n A l.length cA B ps.length cB _ _ h11 hc fun wn hbn=>(loop (statement M) w0 wn (In2 N w wn) lo g c m k a s n A cA B ps.length cB l css (hb.trans (hbn.mono hb.size)) hL hS hcap hsz hs hls (hlow wn hbn) (q0d hc hbn) V0).mono fun e w' h=>h.more V0
  rw [if_neg h11];exact (stX w N lo g c m k a s n A l.length cA B ps.length cB ⟨h6,h7,h12,h10,h8,h9,h11⟩ hc).mono fun e w' h=>h.more V0
end Nm
end Go.Proofs.YtcgibpdjfgjldaaGreatDoor
