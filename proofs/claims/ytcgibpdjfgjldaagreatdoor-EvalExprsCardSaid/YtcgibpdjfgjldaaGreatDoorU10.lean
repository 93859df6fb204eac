/- DERIVED. NmFn, NmLo. By an AI agent. -/
import Derived.Test.YtcgibpdjfgjldaaGreatDoorU09
set_option maxRecDepth 100000
set_option maxHeartbeats 8000000
set_option linter.unusedVariables false
set_option linter.unusedSimpArgs false
open Go Go.ChangeShapes Go.WideShapes Go.ChangeAt Go.RowKit
namespace Go.Proofs.YtcgibpdjfgjldaaGreatDoor
namespace Nm
open Lx Args Pa Sh
theorem isN_has{w:World}{b n:Nat}{f:Bs->Bool}(h:MpS w b n f):IsN w 169 (.map (some b)) f:=
 ⟨fun _ _=>V1,fun v hv s hs=>has_ v b n f (h.upd (Upd.of_below hv fun _=>False) id) s hs⟩
theorem q7L(kn:Kn)(f:Bs)(sn:List Bs)(s:Bs)(l:List Bs):paB kn f sn (s :: l)=if (s==f || isB kn s [1] || sn.contains s)=true then false else paB kn f (sn ++ [s]) l:=rfl
theorem q44{l:List Bs}{i:Nat}{p:Bs}(h:l[i]?=some p):l.take (i+1)=l.take i ++ [p]:=by
 rw [List.take_add_one,h];rfl
theorem q7M(l:List Bs)(p:Bs):(fun t=>l.contains t || t==p)=fun t=>(l ++ [p]).contains t:=by
 funext t
 by_cases h:t=p
 ·subst h;simp
 ·simp [h]
def fnB(a:Int)(s:Bs)(ps:List Bs)(l:List Tz)(c:St):Rs:=
 if namedB c.kn s=true then .bad a else if paB c.kn s [] ps=false then .bad a else exR (exBs (fun t=>ps.contains t) (callB c.kn) (l.take 1)) (.ok { c with kn:=c.kn.put s (1,ps.length) })
theorem function(w0 w:World)(N:Nat->Prop)(lo g:Nat)(c:St)(m:Nat)(k a:Int)(s:Bs)(n:Nat)(A:Option Addr)(cA:Nat)(B:Option Addr)(cB:Nat)(ps:List Bs)(l:List Tz)(css:List (List Value))(hb:Below w0.heap.size w0 w)(hL:Lies w0 A css.flatten)(hS:TsIz w0 l css)(hlc:l.length<=cA/\cA<=maxLen)
  (hB:Lies w0 B (ps.map strV)) (hps:ps.length<=maxLen) (hpl:∀ p∈ps,p.length<=maxLen) (hs:s.length<=maxLen) (hlz:lenzs l) (hN:∀ b,N b->w0.heap.size<=b) (hc:CK N lo w g c m) (hm:m+1<=1099511627776) :
  Calls Tryz.prog 143 #[.pointer (some ⟨g,0,none⟩),nzA k a s n A l.length cA B ps.length cB] w (StatP N lo w g (fnB a s ps l c) (m+1)):=by
 obtain ⟨wn,hwn,hbn,hXn,hsn⟩:=q05 w (nB k a s n A l.length cA B ps.length cB);have HC0:=Hi (q0c hc hbn);have HU0:=Hi (Upd.of_below hbn N);have HX0:=Hi hXn;have HW:=Hi hwn;have HB0:=Hi (hb.trans (hbn.mono hb.size));have HL:=Hi hL;have HS:=Hi hS;have HLC:=Hi hlc;have HBB:=Hi hB;have HPL:=Hi hpl;have HPS:=Hi hps;have HLZ:=Hi hlz;have HM:=Hi hm;have HN:=Hi (q0R (w:=w) hN (Nat.le_trans hb.size hbn.size));have HSN:=Hi hsn;have HB1:=Hi hb;have hlm:l.length<=maxLen:=Nat.le_trans hlc.1 hlc.2;have hpm:ps.length<=9223372036854775807:=hps;obtain ⟨res,hres⟩:∃ res,fnB a s ps l c=res:=⟨_,rfl⟩;rw [hres];have HRES:=Hi hres;have hgl:=hXn.lt;have hdr:Below wn.heap.size wn wn.drew:=Below.drew (Below.refl _ _);obtain ⟨wd,hwd⟩:∃ v,wn.drew=v:=⟨_,rfl⟩;rw [hwd] at hdr;have HXd:=Hi (HX0.out.below hdr HX0.out.lt);have HCd:=Hi (HC0.out.below hdr);have HUd:=Hi (q01 HU0.out (Upd.of_below hdr fun _=>False) fun _ h=>h.elim);have HBd:=Hi (HB0.out.trans (hdr.mono HB0.out.size));have hsd:=hdr.size;have hZ0:Below wd.heap.size wd wd:=Below.refl _ _;have HIN:=Hi (isNamed wd g c.kn HCd.out.knp s hs);unfold fnB at HRES;clear hc hbn hXn hwn hb hL hS hlz hm hN hlc hB hpl hps hres hsn hdr;go_enter Tryz.func143,Tryz.ntmps143;obtain ⟨⟨e0,e1,e2,e3,e4,e5⟩,z0,z1,z2,z3,z4,z5⟩:=Blk.c6 HX0.out;go_wp2_with fail
 clear e0 e1 e2 e3 e4 e5 z0 z1 z2 z3 z4 z5;rw [HW.out];refine HT.wp_region (Z:=fun w'=>Below wd.heap.size wd w') (S:=fun _=>True) (st:=[]) V1 ?_;rw [hwd];clear hwd;refine HT.k 0 rfl Vi hZ0 ?_;refine HT.k 1 rfl Vi hZ0 ?_;refine HT.k 2 rfl Vi hZ0 ?_;refine HT.k 3 rfl Vi hZ0 ?_;refine HT.one (i:=4) V1 rfl (fun K hK=>?_);go_simp;refine HIN.out.mono ?_;rintro e w5 ⟨rfl,hb5⟩;(try dsimp only);refine hK.out _ _ hb5 trivial ?_;clear hK K;(try simp only [HT.pS]);have HR:=Hi (refuse w5 k a s n A l.length cA B ps.length cB (namedB c.kn s));obtain ⟨q,hq⟩:∃ q,namedB c.kn s=q:=⟨_,rfl⟩;rw [hq] at HR HRES ⊢;clear HIN hq;cases q with
 | true=>
  have HQ2:=Hi (show Rs.bad a=res from HRES.out);refine HT.one (i:=5) V1 rfl (fun K hK=>?_);go_simp;refine (show Calls Tryz.prog 162 #[nzA k a s n A l.length cA B ps.length cB,.bool true] w5 _ from HR.out).mono ?_;rintro e w6 ⟨rfl,hb6⟩;have HEND:=Hi (show StatP N lo w g res (m+1) (panW a) w6 from V36);clear hb6;exact Vh
 | false=>
 have HRES:Hid ((if paB c.kn s [] ps=false then .bad a else exR (exBs (fun t=>ps.contains t) (callB c.kn) (l.take 1)) (.ok { c with kn:=c.kn.put s (1,ps.length) }))=res):=Hi HRES.out;refine HT.one (i:=5) V1 rfl (fun K hK=>?_);go_simp;refine (show Calls Tryz.prog 162 #[nzA k a s n A l.length cA B ps.length cB,.bool false] w5 _ from HR.out).mono ?_;rintro e w6 ⟨rfl,hb6⟩;have hz6:=hb5.trans (hb6.mono hb5.size);have HX6:=Hi (HXd.out.below hz6 HXd.out.lt);have HC6:=Hi (HCd.out.below hz6);have HU6:=Hi (q01 HUd.out (Upd.of_below hz6 fun _=>False) fun _ h=>h.elim);have HB6:=Hi (HBd.out.trans (hz6.mono HBd.out.size));have hs6:=hz6.size;clear hb6;(try dsimp only);refine hK.out _ _ hz6 trivial ?_;clear hK K;(try simp only [HT.pS]);refine HT.done V1 ?_;clear hb5 hz6 HR hZ0 HXd HCd HUd HBd HC0 HU0 HX0 HB0;obtain ⟨wm,hwm⟩:∃ v,w6.alloc (.map #[] 0)=v:=⟨_,rfl⟩;have hbm:Below w6.heap.size w6 wm:=V4j;have hmm:MpS wm w6.heap.size 0 (fun t=>(ps.take 0).contains t):=by rw [<-hwm];exact MpS.made w6
 have hsm:wm.heap.size=w6.heap.size+1:=by rw [<-hwm];simp
 have HXm:=Hi (HX6.out.below hbm HX6.out.lt);have HCm:=Hi (q0c HC6.out hbm);have HUm:=Hi (q01 HU6.out (Upd.of_below hbm fun _=>False) fun _ h=>h.elim);have HBm:=Hi (HB6.out.trans (hbm.mono HB6.out.size));have HMM:=Hi hmm;have HWM:=Hi hwm;have HSM:=Hi hsm;obtain ⟨rp,hrp⟩:∃ rp,paB c.kn s [] ps=rp:=⟨_,rfl⟩;have HRP:=Hi hrp;rw [hrp] at HRES;have HNM:=Hi (show ¬ w.heap.size=w6.heap.size by have:=HX6.out.lt;omega);have hlt6:=HX6.out.lt;have hw06:=HB6.out.size;clear hbm hmm hwm hrp hsm;obtain ⟨⟨e0,e1,e2,e3,e4,e5⟩,z0,z1,z2,z3,z4,z5⟩:=Blk.c6 HXm.out;have hmk:(Instr.makeMap 107 none).run Tryz.prog w6 = .ok (.map (some w6.heap.size)) wm:=by rw [<-HWM.out];kernel_rfl
 go_wp2_with fail
 clear e0 e1 e2 e3 e4 e5 z0 z1 z2 z3 z4 z5
 go_loopw [19] (fun vi wr=>∃ i:Nat,i<=ps.length/\vi = .int .i64 (i:Int)/\Hid (CK (In2 (In2 N w wn) w6 wm) lo wr g c m)/\Hid (MpS wr w6.heap.size i (fun t=>(ps.take i).contains t))/\Hid (Upd N w wr)/\Hid (Below w0.heap.size w0 wr)/\Hid (Blk wr w.heap.size 26 (nB k a s n A l.length cA B ps.length cB))/\Hid (paB c.kn s (ps.take i) (ps.drop i)=rp)/\Hid (wm.heap.size<=wr.heap.size)) (fun vi _=>ps.length - (intOf vi).toNat)
 case atStart=>exact ⟨0,V0,rfl,HCm,HMM,HUm,HBm,HXm,HRP,Hi (Nat.le_refl _)⟩
 case round=>
  obtain ⟨i,hi,rfl,HC,HMI,HU,HBE,HX,HQ,HSZ⟩:=hrel;by_cases hlt:i < ps.length
  ·obtain ⟨p,hp⟩:∃ p,ps[i]?=some p:=⟨_,List.getElem?_eq_getElem hlt⟩;have f1:(ps.map strV)[i]?=some (.string ⟨p.toArray⟩):=Vs;obtain ⟨b,o,rfl,_,hc1⟩:=(HBB.out.below HBE.out).at_ f1;have g1:=hc1 _ _ f1;have hpp:=HPL.out p (List.mem_of_getElem? hp);have hq:=HQ.out;rw [drop_at hp,q7L] at hq;have HTS:=Hi (q44 hp);have hdr:Below wr.heap.size wr wr.drew:=Below.drew (Below.refl _ _);obtain ⟨wd,hwd⟩:∃ v,wr.drew=v:=⟨_,rfl⟩;rw [hwd] at hdr;have HXd:=Hi (HX.out.below hdr HX.out.lt);have HCd:=Hi (HC.out.below hdr);have HUd:=Hi (q01 HU.out (Upd.of_below hdr fun _=>False) fun _ h=>h.elim);have HBd:=Hi (HBE.out.trans (hdr.mono HBE.out.size));have HMd:=Hi (HMI.out.upd (Upd.of_below hdr fun _=>False) id);have hsd:=hdr.size;have hZ0:Upd (fun b=>b=w6.heap.size) wd wd:=Upd.refl _ _;obtain ⟨w4,hw4,hb4,hL4⟩:=q19 wd [1];have HW4:=Hi hw4;have HIS:=Hi (is_ w4 g c.kn (HCd.out.knp.below hb4) p hpp _ 1 [1] hL4 V2);have hz4:Upd (fun b=>b=w6.heap.size) wd w4:=Upd.of_below hb4 _;have HB4:=Hi hb4;have HPAN:=Hi fun (v v2:World) (h:Upd (fun b=>b=w6.heap.size) wd v) (h2:Below v.heap.size v v2)=>q01 (q01 HUd.out h fun b hb hlt=>V0) (Upd.of_below h2 fun _=>False) fun _ h=>h.elim
   clear hc1 f1 hp HQ hdr hw4 hL4 hb4;go_wp2_with fail
   clear g1;refine HT.wp_region (Z:=fun w'=>Upd (fun b=>b=w6.heap.size) wd w') (S:=fun _=>True) (st:=[]) V1 ?_;rw [hwd];clear hwd;refine HT.k 0 rfl V0M hZ0 ?_;refine HT.k 1 rfl V0M hZ0 ?_;refine HT.k 2 rfl V0M hZ0 ?_;refine HT.k 3 rfl V0M hZ0 ?_;by_cases hpf:p=s
   ·subst hpf;have hb1:(p==p)=true:=V3;have HQ:Hid (false=rp):=Hi (by rw [<-hq,if_pos V3]);clear hq hb1;refine HT.m 4 hZ0 ?_;refine HT.m 5 hZ0 ?_;refine HT.s 6 hZ0 ?_;refine HT.s 7 hZ0 ?_;refine HT.s 8 hZ0 ?_;refine HT.s 9 hZ0 ?_;refine HT.m 10 hZ0 ?_;refine HT.m 11 hZ0 ?_;refine HT.s 12 hZ0 ?_;refine HT.s 13 hZ0 ?_;refine HT.s 14 hZ0 ?_;refine HT.s 15 hZ0 ?_;refine HT.m 16 hZ0 ?_;have HQ2:=Hi (show Rs.bad a=res from V27);refine HT.one (i:=17) V1 rfl (fun K hK=>?_);go_simp;refine (show Calls Tryz.prog 162 #[nzA k a p n A l.length cA (some ⟨b,o,none⟩) ps.length cB,.bool true] wd _ from (refuse wd k a p n A l.length cA (some ⟨b,o,none⟩) ps.length cB true)).mono ?_;rintro e wy ⟨rfl,hby⟩;have HEND:=Hi (show StatP N lo w g res (m+1) (panW a) wy from by rw [<-HQ2.out];exact ⟨rfl,HPAN.out _ _ hZ0 hby⟩);clear hby;exact Vh
   have hb1:(p==s)=false:=by simpa using hpf
   have hq2:(if (isB c.kn p [1] || (ps.take i).contains p)=true then false else paB c.kn s (ps.take i ++ [p]) (ps.drop (i+1)))=rp:=by rw [<-hq,hb1,Bool.false_or]
   clear hq hpf;refine HT.m 4 hZ0 ?_;refine HT.m 5 hZ0 ?_;refine HT.m 6 hZ0 ?_;refine HT.m 7 hZ0 ?_;refine HT.one (i:=8) V1 rfl (fun K hK=>?_);go_simp;rw [show wd.alloc (.cells #[.int .i64 1] 102)=w4 from HW4.out];(try dsimp only);refine hK.out _ _ hz4 trivial ?_;clear hK K;(try simp only [HT.pS]);refine HT.one (i:=9) V1 rfl (fun K hK=>?_);go_simp;refine (show Calls Tryz.prog 165 #[.pointer (some ⟨g,0,none⟩),.string ⟨p.toArray⟩,.slice (some ⟨wd.heap.size,0,none⟩) 1 1] w4 _ from HIS.out).mono ?_;rintro e w5 ⟨rfl,hb5⟩;have hbb5:=HB4.out.trans (hb5.mono HB4.out.size);have hz5:Upd (fun b=>b=w6.heap.size) wd w5:=Upd.of_below hbb5 _;(try dsimp only);refine hK.out _ _ hz5 trivial ?_;clear hK K;(try simp only [HT.pS]);obtain ⟨q,hqq⟩:∃ q,isB c.kn p [1]=q:=⟨_,rfl⟩;rw [hqq] at hq2 ⊢;clear HIS hqq hz4;cases q with
   | true=>
    have HQ:Hid (false=rp):=Hi (by rw [<-hq2,if_pos V3]);clear hq2;refine HT.m 10 hz5 ?_;refine HT.m 11 hz5 ?_;refine HT.s 12 hz5 ?_;refine HT.s 13 hz5 ?_;refine HT.s 14 hz5 ?_;refine HT.s 15 hz5 ?_;refine HT.m 16 hz5 ?_;have HQ2:=Hi (show Rs.bad a=res from V27);refine HT.one (i:=17) V1 rfl (fun K hK=>?_);go_simp;refine (show Calls Tryz.prog 162 #[nzA k a s n A l.length cA (some ⟨b,o,none⟩) ps.length cB,.bool true] w5 _ from (refuse w5 k a s n A l.length cA (some ⟨b,o,none⟩) ps.length cB true)).mono ?_;rintro e wy ⟨rfl,hby⟩;have HEND:=Hi (show StatP N lo w g res (m+1) (panW a) wy from by rw [<-HQ2.out];exact ⟨rfl,HPAN.out _ _ hz5 hby⟩);clear hby;exact Vh
   | false=>
    have hq3:(if (ps.take i).contains p=true then false else paB c.kn s (ps.take i ++ [p]) (ps.drop (i+1)))=rp:=by rw [<-hq2,Bool.false_or]
    have HAD:=Hi (add_ w5 w6.heap.size i _ (HMd.out.upd (Upd.of_below hbb5 fun _=>False) id) V8 p hpp);unfold AddP at HAD;obtain ⟨q,hqq⟩:∃ q,(ps.take i).contains p=q:=⟨_,rfl⟩;have HQQ:=Hi hqq;simp only [hqq] at HAD hq3;clear hq2 hqq;refine HT.m 10 hz5 ?_;refine HT.m 11 hz5 ?_;refine HT.m 12 hz5 ?_;refine HT.m 13 hz5 ?_;refine HT.one (i:=14) V1 rfl (fun K hK=>?_);go_simp;refine (show Calls Tryz.prog 166 #[.map (some w6.heap.size),.string ⟨p.toArray⟩] w5 _ from HAD.out).mono ?_;rintro e w7 ⟨rfl,hms7,hu7⟩;have hz7:Upd (fun b=>b=w6.heap.size) wd w7:=hz5.trans hu7;(try dsimp only);refine hK.out _ _ hz7 trivial ?_;clear hK K;(try simp only [HT.pS]);have HMS:=Hi hms7;clear hms7 HAD;cases q with
    | true=>
     have HQ:Hid (false=rp):=Hi (by rw [<-hq3];rfl);clear hq3;refine HT.m 15 hz7 ?_;refine HT.m 16 hz7 ?_;have HQ2:=Hi (show Rs.bad a=res from V27);refine HT.one (i:=17) V1 rfl (fun K hK=>?_);go_simp;refine (show Calls Tryz.prog 162 #[nzA k a s n A l.length cA (some ⟨b,o,none⟩) ps.length cB,.bool true] w7 _ from (refuse w7 k a s n A l.length cA (some ⟨b,o,none⟩) ps.length cB true)).mono ?_;rintro e wy ⟨rfl,hby⟩;have HEND:=Hi (show StatP N lo w g res (m+1) (panW a) wy from by rw [<-HQ2.out];exact ⟨rfl,HPAN.out _ _ hz7 hby⟩);clear hby;exact Vh
    | false=>
     have HQ:Hid (paB c.kn s (ps.take i ++ [p]) (ps.drop (i+1))=rp):=Hi (by rw [<-hq3];rfl);clear hq3;refine HT.m 15 hz7 ?_;refine HT.m 16 hz7 ?_;refine HT.one (i:=17) V1 rfl (fun K hK=>?_);go_simp;refine (show Calls Tryz.prog 162 #[nzA k a s n A l.length cA (some ⟨b,o,none⟩) ps.length cB,.bool false] w7 _ from (refuse w7 k a s n A l.length cA (some ⟨b,o,none⟩) ps.length cB false)).mono ?_;rintro e w8 ⟨rfl,hb8⟩;have hz8:Upd (fun b=>b=w6.heap.size) wd w8:=q01 hz7 (Upd.of_below hb8 fun _=>False) fun _ h=>h.elim
     have hnm:∀ b,In2 (In2 N w wn) w6 wm b->¬ b=w6.heap.size:=fun b hb e=>q2M hb HSM.out e.symm
     have HC8:=Hi (HCd.out.far hz8 hnm);have HX8:=Hi (HXd.out.upd hz8 HNM.out);have HU8:=Hi (q01 HUd.out hz8 fun b hb hlt=>V0);have HB8:=Hi (q0S HBd.out hz8 fun b hb=>V0);have HM8:Hid (MpS w8 w6.heap.size (i+1) (fun t=>(ps.take (i+1)).contains t)):=Hi (by
      have:=HMS.out.upd (Upd.of_below hb8 fun _=>False) id;rw [q7M] at this;rw [HTS.out];exact this)
     have HQ3:Hid (paB c.kn s (ps.take (i+1)) (ps.drop (i+1))=rp):=Hi (by rw [HTS.out];exact HQ.out);have HSZ8:=Hi (show wm.heap.size<=w8.heap.size by have:=hz8.size;have:=HSZ.out;omega);clear hb8 hnm;(try dsimp only);refine hK.out _ _ hz8 trivial ?_;clear hK K;(try simp only [HT.pS]);refine HT.done V1 ?_;clear hz8 hz7 hz5 hu7 hb5 hbb5 hZ0;go_wp2_with fail
     go_roundw
     case rel=>exact ⟨i+1,V0,V5,HC8,HM8,HU8,HB8,HX8,HQ3,HSZ8⟩
     case measure=>simp [intOf];omega
  ·obtain rfl:i=ps.length:=by omega
   have hq:=HQ.out;rw [List.drop_length] at hq;have hrp:rp=true:=hq.symm;subst hrp;have HRES:Hid (exR (exBs (fun t=>ps.contains t) (callB c.kn) (l.take 1)) (.ok { c with kn:=c.kn.put s (1,ps.length) })=res):=Hi HRES.out;have HMI:Hid (MpS wr w6.heap.size ps.length (fun t=>ps.contains t)):=Hi (by have:=HMI.out;rwa [List.take_length] at this);clear hq HQ HRP;have HCU:=Hi (cut_ wr A l.length cA 1 HLC.out.1 HLC.out.2 V2);obtain ⟨⟨e0,e1,e2,e3,e4,e5⟩,z0,z1,z2,z3,z4,z5⟩:=Blk.c6 HX.out;go_wp2_with fail
   refine (show Calls Tryz.prog 167 #[.slice A l.length cA,.int .i64 1] wr _ from HCU.out).mono ?_;intro e w1 hcp;obtain ⟨A1,c1,A2,c2,css1,css2,rfl,hL1,hS1,_,_,hb1⟩:=q2L hcp HL.out HS.out;have HX1:=Hi (HX.out.below hb1 HX.out.lt);have HC1:=Hi (HC.out.below hb1);have HU1:=Hi (q01 HU.out (Upd.of_below hb1 fun _=>False) fun _ h=>h.elim);have HBW1:=Hi (HBE.out.trans (hb1.mono HBE.out.size));have hs1:=hb1.size;have HEX:=Hi (exprs w0 w1 g c.kn _ _ _ A1 c1 (l.take 1) css1 HBW1.out hL1 hS1 (Nat.le_trans VV hlm) (lenzs_take 1 HLZ.out).1 HC1.out.knp (isN_has (HMI.out.upd (Upd.of_below hb1 fun _=>False) id)));clear hcp hL1 hS1 hb1 HCU e0 e1 e2 e3 e4 e5 z0 z1 z2 z3 z4 z5;obtain ⟨⟨e0,e1,e2,e3,e4,e5⟩,z0,z1,z2,z3,z4,z5⟩:=Blk.c6 HX1.out;generalize exBs (fun t=>ps.contains t) (callB c.kn) (l.take 1)=r1 at HEX HRES;generalize (l.take 1).length=n1 at HEX;generalize (l.drop 1).length=n2;go_wp2_with fail
   refine (show Calls Tryz.prog 168 #[.pointer (some ⟨g,0,none⟩),.func (.func 169) #[.map (some w6.heap.size)] #[],.slice A1 n1 c1] w1 _ from HEX.out).mono ?_;intro e w2 h2;cases r1 with
   | some a1=>
    exact V1h
   | none=>
   obtain ⟨rfl,hb2⟩:=h2;have HQ2:=Hi (show Rs.ok { c with kn:=c.kn.put s (1,ps.length) }=res from HRES.out);have hdr:Below w2.heap.size w2 w2.drew:=Below.drew (Below.refl _ _);obtain ⟨wd,hwd⟩:∃ v,w2.drew=v:=⟨_,rfl⟩;rw [hwd] at hdr;have hb1d:=hb2.trans (hdr.mono hb2.size);have HXd:=Hi (HX1.out.below hb1d HX1.out.lt);have HUd:=Hi (q01 HU1.out (Upd.of_below hb1d fun _=>False) fun _ h=>h.elim);obtain ⟨⟨vs,vp,vo,ve,kb,ob,hv⟩,hbd⟩:=HC1.out.below hb1d;have hsd:=hb1d.size;obtain ⟨w9,hrun,hm9,ht9⟩:=hv.mp.put (s:=s) hs (q69 HM.out) (1,ps.length) (by show 1<=3;decide) HPS.out;have hrun':(Instr.mapUpdate 105 (.map (some kb)) (.string ⟨s.toArray⟩) (.agg #[.int .i64 1,.int .i64 (ps.length:Int)])).run Tryz.prog wd = .ok () w9:=hrun;have hz9:Upd (fun b=>b=kb) wd w9:=q08 ht9 rfl;have hZ0:Upd (fun b=>b=kb) wd wd:=Upd.refl _ _;have HVd:=Hi hv;have HBDD:=Hi hbd;have HM9:=Hi hm9;have HGK:=Hi hv.ne.1.1;have hin:In2 N w wn kb:=(hv.inN _ V3 kb rfl).elim (fun h=>h.1) fun h=>.inr (by have:=HSM.out;omega)
   have HNK:=Hi (q2M hin HSN.out);have HIN:=Hi hin;clear hb2 hdr hb1d hv hbd hrun hm9 ht9 hin e0 e1 e2 e3 e4 e5 z0 z1 z2 z3 z4 z5;go_wp2_with fail
   refine HT.wp_region (Z:=fun w'=>Upd (fun b=>b=kb) wd w') (S:=fun _=>True) (st:=[]) V1 ?_;rw [hwd];clear hwd;refine HT.k 0 rfl Vq hZ0 ?_;refine HT.k 1 rfl Vq hZ0 ?_;refine HT.k 2 rfl Vq hZ0 ?_;refine HT.k 3 rfl Vq hZ0 ?_;refine HT.k 4 rfl Vq hZ0 ?_;refine HT.k 5 rfl Vq hZ0 ?_;refine HT.k 6 rfl Vq hZ0 ?_;refine HT.k 7 rfl Vq hZ0 ?_;refine HT.k 8 rfl Vq hZ0 ?_;refine HT.k 9 rfl Vq hZ0 ?_;refine HT.one (i:=10) V1 rfl (fun K hK=>?_);go_simp;(try dsimp only);refine hK.out _ _ hz9 trivial ?_;clear hK K;(try simp only [HT.pS]);refine HT.done V1 ?_;have hfin:=HVd.out.kn' hz9 HM9.out (Nat.le_succ m);have HEND:=Hi (show StatP N lo w g res (m+1) (.returned (.tuple #[])) w9 from by
    rw [<-HQ2.out];have hb:=HBDD.out;refine ⟨rfl,⟨⟨vs,vp,vo,ve,kb,ob,hfin.mono fun b hb _ _=>?_⟩,⟨Nat.le_succ_of_le hb.1,Nat.le_succ_of_le hb.2.1,Nat.le_succ_of_le hb.2.2.1,Nat.le_succ_of_le hb.2.2.2⟩,HC1.out.enl⟩,?_⟩
    ·rcases hb with h | h
     ·exact h.1.imp (fun h=>h.1) fun h=>V9
     ·exact .inr (by have:=HSM.out;omega)
    ·exact q0i HUd.out (hz9.mono fun b hb=>hb ▸ HIN.out) V9)
   clear hfin hz9 hrun' hZ0;go_wp2_with fail
   first | go_end0 | skip
   all_goals first | exact HEND.out | exact bodyPost_ret (results_none rfl _ _ _) rfl HEND.out
mutual
def nbz:Tz->Nat
 | .mk _ _ _ _ ps l=>ps.length+1+nbzs l
def nbzs:List Tz->Nat
 | []=>0
 | x :: l=>nbz x+nbzs l
end
theorem nbzs_drop:∀ (i:Nat) (l:List Tz),nbzs (l.drop i)<=nbzs l
 | 0,l=>by rw [List.drop_zero];exact Nat.le_refl _
 | i+1,[]=>V3
 | i+1,x :: l=>by
  rw [List.drop_succ_cons];have:=nbzs_drop i l;exact V22
def StC(M:Nat):Prop:=∀ (z:Tz),SizeOf.sizeOf z < M->∀ (w0 w:World) (N:Nat->Prop) (lo g:Nat) (c:St) (m:Nat) (k a:Int) (s:Bs) (n:Nat) (A:Option Addr) (la cA:Nat) (B:Option Addr) (lb cB:Nat),Below w0.heap.size w0 w->TIc True w0 z (nzC k a s n A la cA B lb cB)->lenz z->(∀ b,N b->w0.heap.size<=b)->CK N lo w g c m->Sorts c.kn->m+nbz z<=1099511627776 ->
 Calls Tryz.prog 119 #[.pointer (some ⟨g,0,none⟩),nzA k a s n A la cA B lb cB] w (StatP N lo w g (stB z c) (m+nbz z))
theorem CK.sorts{N:Nat->Prop}{lo:Nat}{w:World}{g:Nat}{c:St}{m:Nat}(h:CK N lo w g c m):Sorts c.kn:=h.knp.sorts
theorem statements{M:Nat}(H:StC M)(w0 w:World)(N:Nat->Prop)(lo g:Nat)(c:St)(m:Nat)(A:Option Addr)(cA:Nat)(l:List Tz)(css:List (List Value))(hb:Below w0.heap.size w0 w)(hL:Lies w0 A css.flatten)(hS:TsIc True w0 l css)(hl:l.length<=maxLen)
  (hlz:lenzs l) (hsz:∀ (i:Nat) (x:Tz),l[i]?=some x->SizeOf.sizeOf x < M) (hN:∀ b,N b->w0.heap.size<=b) (hc:CK N lo w g c m) (hm:m+nbzs l<=1099511627776) :
  Calls Tryz.prog 93 #[.pointer (some ⟨g,0,none⟩),.slice A l.length cA] w (StatP N lo w g (stBs 0 l c) (m+nbzs l)):=by
 have hlm:l.length<=9223372036854775807:=hl;have HH:=Hi H;have HL:=Hi hL;have HS:=Hi hS;have HLZ:=Hi hlz;have HSZ:=Hi hsz;have HN:=Hi hN;have HM:=Hi hm;have HC0:=Hi (hc.mono (N':=New N w) fun b h _ _=>.inl h);have HB0:=Hi hb;obtain ⟨res,hres⟩:∃ res,stBs 0 l c=res:=⟨_,rfl⟩;rw [hres];have HRES:=Hi hres;obtain ⟨M0,hM0⟩:∃ M0,m+nbzs l=M0:=⟨_,rfl⟩;rw [hM0] at HM ⊢;have HMS:=Hi (show m+nbzs l<=M0 from V0);clear H hL hS hlz hsz hN hm hc hb hres hl hM0;go_enter Tryz.func93,Tryz.ntmps93;go_wp2_with fail
 go_loopw [8] (fun vi wr=>∃ (i:Nat) (ci:St) (mi:Nat),i<=l.length/\vi = .int .i64 (i:Int)/\Hid (CK (New N w) lo wr g ci mi)/\Hid (mi+nbzs (l.drop i)<=M0)/\Hid (Upd N w wr)/\Hid (Below w0.heap.size w0 wr)/\Hid (stBs 0 (l.drop i) ci=res)) (fun vi _=>l.length - (intOf vi).toNat)
 case atStart=>exact ⟨0,c,m,V0,rfl,HC0,Hi HMS.out,Hi (Upd.refl _ _),HB0,HRES⟩
 case round=>
  obtain ⟨i,ci,mi,hi,rfl,HC,HMI,HU,HBE,HQ⟩:=hrel;by_cases hlt:i < l.length
  ·have hil:(i:Int) < (l.length:Int):=by omega
   obtain ⟨y,hy⟩:∃ y,l[i]?=some y:=⟨_,List.getElem?_eq_getElem hlt⟩;obtain ⟨b,o,k',a',s',n',A',la',cA',B',lb',cB',rfl,hTy,hbl,g0,g1,g2,g3,g4,g5⟩:=q3r HBE.out HL.out HS.out hy;obtain ⟨wb,hwb,hbb,hXb,hsb⟩:=q05 wr (nB k' a' s' n' A' la' cA' B' lb' cB');have hq:=HQ.out;rw [drop_at hy,q1U] at hq;have hmi:=HMI.out;rw [drop_at hy] at hmi;unfold nbzs at hmi;have hCb:CK (fun b=>New N w b/\b < wr.heap.size) lo wb g ci mi:=(HC.out.mono (N':=fun b=>New N w b/\b < wr.heap.size) fun b h1 h2 _=>⟨h1,h2⟩).below hbb;have hC:=HH.out y (HSZ.out i y hy) w0 wb _ lo g ci mi k' a' s' n' A' la' cA' B' lb' cB' (HBE.out.trans (hbb.mono HBE.out.size)) hTy (q1Y HLZ.out hy) (fun b hb=>hb.1.elim (HN.out b) fun h=>Nat.le_trans HB0.out.size h) hCb hCb.sorts VC;obtain ⟨⟨e0,e1,e2,e3,e4,e5⟩,z0,z1,z2,z3,z4,z5⟩:=Blk.c6 hXb;have HCC:=Hi hC;have HWB:=Hi hwb;have HQ2:=Hi hq;have HBB:=Hi hbb;have HMI2:=Hi hmi;have hsr:=HU.out.size;generalize nbz y=my at HCC HMI2;clear hC hwb hbb hXb hq hTy hy hCb hmi;generalize stB y ci=r2 at HCC HQ2;go_wp2_with fail
   rw [HWB.out];refine (show Calls Tryz.prog 119 #[.pointer (some ⟨g,0,none⟩),nzA k' a' s' n' A' la' cA' B' lb' cB'] wb _ from HCC.out).mono ?_;intro e w4 h4;cases r2 with
   | bad a2=>
    obtain ⟨rfl,hu4⟩:=h4;have HQ3:=Hi (show Rs.bad a2=res from HQ2.out);have HEND:=Hi (show StatP N lo w g res M0 (panW a2) w4 from by
     rw [<-HQ3.out];exact ⟨rfl,q01 (q01 HU.out (Upd.of_below HBB.out fun _=>False) fun _ h=>h.elim) hu4 fun b hb hlt=>hb.1.resolve_right V0⟩)
    exact VP
   | ok c2=>
    obtain ⟨rfl,hc4,hu4⟩:=h4;have HC4:=Hi (hc4.mono (N':=New N w) fun b hb _ _=>hb.elim (fun h=>h.1) fun h=>.inr (Nat.le_trans hsr V0));have HU4:=Hi (q01 (q01 HU.out (Upd.of_below HBB.out fun _=>False) fun _ h=>h.elim) hu4 fun b hb hlt=>hb.1.resolve_right V0);have HB4:=Hi (q0S (HBE.out.trans (HBB.out.mono HBE.out.size)) hu4 fun b hb=>hb.1.elim (HN.out b) fun h=>Nat.le_trans HB0.out.size h);have HMI3:=Hi (show mi+my+nbzs (l.drop (i+1))<=M0 by have:=HMI2.out;omega);clear hc4 hu4;go_wp2_with fail
    go_roundw
    case rel=>exact ⟨i+1,c2,mi+my,V0,V5,HC4,HMI3,HU4,HB4,Hi HQ2.out⟩
    case measure=>simp [intOf];omega
  ·obtain rfl:i=l.length:=by omega
   have hq:=HQ.out;rw [List.drop_length,q3k] at hq;have hmi:=HMI.out;have HEND:=Hi (show StatP N lo w g res M0 (.returned (.tuple #[])) wr from by rw [<-hq];exact ⟨rfl,HC.out.more V0,HU.out⟩);clear hq;exact Vd
theorem q5L{q:Prop}{w0 w:World}{A:Option Addr}{l:List Tz}{css:List (List Value)}{k:Nat}{e:Ending}{w':World}(h:CutP w A l.length k e w')(hL:Lies w0 A css.flatten)(hS:TsIc q w0 l css) :
  ∃ A1 c1 A2 c2 css1 css2,e = .returned (.tuple #[.slice A1 (l.take k).length c1,.slice A2 (l.drop k).length c2])/\Lies w0 A1 css1.flatten/\TsIc q w0 (l.take k) css1/\Lies w0 A2 css2.flatten/\TsIc q w0 (l.drop k) css2/\Below w.heap.size w w':=by
 obtain ⟨A1,c1,A2,c2,rfl,h1,h2,hb⟩:=h;obtain ⟨h4,h5,h6,h7⟩:=q2K k hS;refine ⟨A1,c1,A2,c2,css.take k,css.drop k,by rw [List.length_take,List.length_drop],lies_take (h1 w0 _ hL) h7,h4,?_,h5,hb⟩;by_cases hlt:0 < l.length - k
 ·rw [<-h6];exact h2 hlt w0 _ hL
 ·exact V3y
def loopB(a:Int)(s:Bs)(l:List Tz)(c:St):Rs:=
 exR (exBs (wordB c.kn) (callB c.kn) (l.take 2)) (if namedB c.kn s=true then .bad a else
  bndR (stBs 2 l { c with kn:=c.kn.put s (3,0),en:=c.en ++ [s] }) fun d=>.ok { d with kn:=d.kn.dels (d.en.drop c.en.length),en:=d.en.take c.en.length })
theorem q6k(kn:Kn)(l:List Bs)(s:Bs):(kn.dels l).dels [s]=kn.dels (l ++ [s]):=by
 funext t
 unfold Kn.dels;by_cases h:t∈l <;> by_cases h2:t=s <;> simp [h,h2]
theorem loop{M:Nat}(H:StC M)(w0 w:World)(N:Nat->Prop)(lo g:Nat)(c:St)(m:Nat)(k a:Int)(s:Bs)(n:Nat)(A:Option Addr)(cA:Nat)(B:Option Addr)(lb cB:Nat)(l:List Tz)(css:List (List Value))(hb:Below w0.heap.size w0 w)(hL:Lies w0 A css.flatten)(hS:TsIc True w0 l css)(hlc:l.length<=cA/\cA<=maxLen)
  (hsz:∀ (i:Nat) (x:Tz),l[i]?=some x->SizeOf.sizeOf x < M) (hs:s.length<=maxLen) (hlz:lenzs l) (hN:∀ b,N b->w0.heap.size<=b) (hc:CK N lo w g c m) (hm:m+1+nbzs l<=1099511627776) :
  Calls Tryz.prog 146 #[.pointer (some ⟨g,0,none⟩),nzA k a s n A l.length cA B lb cB] w (StatP N lo w g (loopB a s l c) (m+1+nbzs l)):=by
 have HH:=Hi H;have HSZ:=Hi hsz;have HST:=Hi hS;have HNN:=Hi hN;have hS:=q0J hS;clear H hsz;obtain ⟨wn,hwn,hbn,hXn,hsn⟩:=q05 w (nB k a s n A l.length cA B lb cB);obtain ⟨⟨e0,e1,e2,e3,e4,e5⟩,z0,z1,z2,z3,z4,z5⟩:=Blk.c6 hXn;have HCU:=Hi (cut_ wn A l.length cA 2 hlc.1 hlc.2 V2);have HC0:=Hi (q0c hc hbn);have HU0:=Hi (Upd.of_below hbn N);have HX0:=Hi hXn;have HW:=Hi hwn;have HB0:=Hi (hb.trans (hbn.mono hb.size));have HL:=Hi hL;have HS:=Hi hS;have HLZ:=Hi hlz;have HM:=Hi hm;have HN:=Hi (q0R (w:=w) hN (Nat.le_trans hb.size hbn.size));have HSN:=Hi hsn;have hlm:l.length<=maxLen:=Nat.le_trans hlc.1 hlc.2;obtain ⟨res,hres⟩:∃ res,loopB a s l c=res:=⟨_,rfl⟩;rw [hres];have HRES:=Hi hres;have hgl:=hXn.lt;clear hc hbn hXn hwn hb hL hS hlz hm hN hlc hres hsn;go_enter Tryz.func146,Tryz.ntmps146;go_wp2_with fail
 rw [HW.out];refine (show Calls Tryz.prog 167 #[.slice A l.length cA,.int .i64 2] wn _ from HCU.out).mono ?_;intro e w1 hcp;obtain ⟨A1,c1,A2,c2,css1,css2,rfl,hL1,hS1,hL2,hS2,hb1⟩:=q5L hcp HL.out HST.out;have HX1:=Hi (HX0.out.below hb1 HX0.out.lt);have HC1:=Hi (HC0.out.below hb1);have HU1:=Hi (q01 HU0.out (Upd.of_below hb1 fun _=>False) fun _ h=>h.elim);have HB1:=Hi (HB0.out.trans (hb1.mono HB0.out.size));have hs1:=hb1.size;have HEX:=Hi (exprs w0 w1 g c.kn _ _ _ A1 c1 (l.take 2) css1 HB1.out hL1 (q0J hS1) (Nat.le_trans VV hlm) (lenzs_take 2 HLZ.out).1 HC1.out.knp (q3w HC1.out.knp));have HL2:=Hi hL2;have HS2:=Hi hS2;clear hcp hL1 hS1 hL2 hS2 hb1 HCU e0 e1 e2 e3 e4 e5 z0 z1 z2 z3 z4 z5;obtain ⟨⟨e0,e1,e2,e3,e4,e5⟩,z0,z1,z2,z3,z4,z5⟩:=Blk.c6 HX1.out;unfold loopB at HRES;generalize exBs (wordB c.kn) (callB c.kn) (l.take 2)=r1 at HEX HRES;generalize (l.take 2).length=n1 at HEX;obtain ⟨lb2,hlb2⟩:∃ lb2,l.drop 2=lb2:=⟨_,rfl⟩;have HLB:=Hi hlb2;rw [hlb2] at HS2 ⊢;clear hlb2;have hlb2m:lb2.length<=9223372036854775807:=by rw [<-HLB.out,List.length_drop];exact Nat.le_trans (Nat.sub_le _ _) hlm
 go_wp2_with fail
 refine (show Calls Tryz.prog 168 #[.pointer (some ⟨g,0,none⟩),.func (.func 170) #[.pointer (some ⟨g,0,none⟩)] #[],.slice A1 n1 c1] w1 _ from HEX.out).mono ?_;intro e w2 h2;cases r1 with
 | some a1=>
  obtain ⟨rfl,hb2⟩:=h2;have HEND:=Hi (show StatP N lo w g res (m+1+nbzs l) (panW a1) w2 from V3M);clear hb2;exact Vl
 | none=>
 obtain ⟨rfl,hb2⟩:=h2;have HX2:=Hi (HX1.out.below hb2 HX1.out.lt);have HC2:=Hi (HC1.out.below hb2);have HU2:=Hi (q01 HU1.out (Upd.of_below hb2 fun _=>False) fun _ h=>h.elim);have HB2:=Hi (HB1.out.trans (hb2.mono HB1.out.size));have hs2:=hb2.size;have hdr:Below w2.heap.size w2 w2.drew:=Below.drew (Below.refl _ _);obtain ⟨wd,hwd⟩:∃ v,w2.drew=v:=⟨_,rfl⟩;rw [hwd] at hdr;have HXd:=Hi (HX2.out.below hdr HX2.out.lt);have HCd:=Hi (HC2.out.below hdr);have HUd:=Hi (q01 HU2.out (Upd.of_below hdr fun _=>False) fun _ h=>h.elim);have HBd:=Hi (HB2.out.trans (hdr.mono HB2.out.size));have hsd:=hdr.size;have hZ0:Below wd.heap.size wd wd:=Below.refl _ _;have HIN:=Hi (isNamed wd g c.kn HCd.out.knp s hs);clear hb2 hdr e0 e1 e2 e3 e4 e5 z0 z1 z2 z3 z4 z5;go_wp2_with fail
 refine HT.wp_region (Z:=fun w'=>Below wd.heap.size wd w') (S:=fun _=>True) (st:=[]) V1 ?_;rw [hwd];clear hwd;refine HT.k 0 rfl Vi hZ0 ?_;refine HT.k 1 rfl Vi hZ0 ?_;refine HT.k 2 rfl Vi hZ0 ?_;refine HT.k 3 rfl Vi hZ0 ?_;refine HT.one (i:=4) V1 rfl (fun K hK=>?_);go_simp;refine HIN.out.mono ?_;rintro e w5 ⟨rfl,hb5⟩;(try dsimp only);refine hK.out _ _ hb5 trivial ?_;clear hK K;(try simp only [HT.pS]);have HR:=Hi (refuse w5 k a s n A l.length cA B lb cB (namedB c.kn s));obtain ⟨q,hq⟩:∃ q,namedB c.kn s=q:=⟨_,rfl⟩;rw [hq] at HR HRES ⊢;clear HIN hq;cases q with
 | true=>
  have HQ2:=Hi (show Rs.bad a=res from HRES.out);refine HT.one (i:=5) V1 rfl (fun K hK=>?_);go_simp;refine (show Calls Tryz.prog 162 #[nzA k a s n A l.length cA B lb cB,.bool true] w5 _ from HR.out).mono ?_;rintro e w6 ⟨rfl,hb6⟩;have HEND:=Hi (show StatP N lo w g res (m+1+nbzs l) (panW a) w6 from V36);clear hb6;exact Vh
 | false=>
 refine HT.one (i:=5) V1 rfl (fun K hK=>?_);go_simp;refine (show Calls Tryz.prog 162 #[nzA k a s n A l.length cA B lb cB,.bool false] w5 _ from HR.out).mono ?_;rintro e w6 ⟨rfl,hb6⟩;have hz6:=hb5.trans (hb6.mono hb5.size);have HX6:=Hi (HXd.out.below hz6 HXd.out.lt);have HC6:=Hi (HCd.out.below hz6);have HU6:=Hi (q01 HUd.out (Upd.of_below hz6 fun _=>False) fun _ h=>h.elim);have HB6:=Hi (HBd.out.trans (hz6.mono HBd.out.size));have hs6:=hz6.size;clear hb6;(try dsimp only);refine hK.out _ _ hz6 trivial ?_;clear hK K;(try simp only [HT.pS]);refine HT.done V1 ?_;clear hb5 hz6 HR hZ0 HXd HCd HUd HBd HX2 HC2 HU2 HB2 HX1 HC1 HU1 HB1 HX0 HC0 HU0 HB0;obtain ⟨⟨vs,vp,vo,ve,kb,ob,hv⟩,_⟩:=HC6.out;obtain ⟨Ae,ce,rfl⟩:=q0l hv.oe;have c5:w6.cell? ⟨g,5,none⟩=some (.slice Ae c.en.length ce):=hv.blk.cell 5;have HNA:=Hi (name_ (In2 N w wn) lo w6 g c m HC6.out VC s hs 3 V2);obtain ⟨⟨e0,e1,e2,e3,e4,e5⟩,z0,z1,z2,z3,z4,z5⟩:=Blk.c6 HX6.out;clear hv;go_wp2_with fail
 refine (show Calls Tryz.prog 164 #[.pointer (some ⟨g,0,none⟩),.string ⟨s.toArray⟩,.int .i64 3] w6 _ from HNA.out).mono ?_;rintro e w7 ⟨rfl,hc7,hu7⟩;have HC7:=Hi (q1v hc7 (show wn.heap.size<=w6.heap.size from V0));have HU7:=Hi (q0i HU6.out hu7 V9);have HB7:=Hi (q0S HB6.out hu7 HN.out);have hs7:=hu7.size;obtain ⟨c1,hc1⟩:∃ c1:St,({ c with kn:=c.kn.put s (3,0),en:=c.en ++ [s] }:St)=c1:=⟨_,rfl⟩;rw [hc1] at HC7 HRES;have HST2:=Hi (statements HH.out w0 w7 (In2 N w wn) lo g c1 (m+1) A2 c2 lb2 css2 HB7.out HL2.out HS2.out hlb2m (by rw [<-HLB.out];exact (lenzs_take 2 HLZ.out).2) (fun i x hx=>HSZ.out (2+i) x (by rw [<-HLB.out,List.getElem?_drop] at hx;exact hx)) HN.out HC7.out (by have:=HM.out;have:=nbzs_drop 2 l;rw [HLB.out] at this;omega));have HSO:=Hi HC7.out.sorts;have HC1E:=Hi (show c1.en.length=c.en.length+1 by rw [<-hc1];simp);rw [q3O 2,HLB.out] at HRES;have HRES:Hid (bndR (stBs 0 lb2 c1) (fun d=>.ok { d with kn:=d.kn.dels (d.en.drop c.en.length),en:=d.en.take c.en.length })=res):=Hi HRES.out;have HEXT:=Hi (fun c3 (h:stBs 0 lb2 c1 = .ok c3)=>(q1D h HSO.out).1.len);have HML:=Hi (show nbzs lb2<=nbzs l by rw [<-HLB.out];exact nbzs_drop 2 l);generalize stBs 0 lb2 c1=r3 at HST2 HRES HEXT;clear hc7 hu7 hc1 HNA e0 e1 e2 e3 e4 e5 z0 z1 z2 z3 z4 z5 c5;go_wp2_with fail
 refine (show Calls Tryz.prog 93 #[.pointer (some ⟨g,0,none⟩),.slice A2 lb2.length c2] w7 _ from HST2.out).mono ?_;intro e w8 h8;cases r3 with
 | bad a3=>
  obtain ⟨rfl,hu8⟩:=h8;have HEND:=Hi (show StatP N lo w g res (m+1+nbzs l) (panW a3) w8 from by rw [<-HRES.out];exact ⟨rfl,q0i HU7.out hu8 V9⟩);clear hu8;exact Vl
 | ok c3=>
 obtain ⟨rfl,hc8,hu8⟩:=h8;have HC8:=Hi (q1v hc8 (show wn.heap.size<=w7.heap.size from V0));have HU8:=Hi (q0i HU7.out hu8 V9);have HB8:=Hi (q0S HB7.out hu8 HN.out);have hs8:=hu8.size;have HQ2:=Hi (show Rs.ok { c3 with kn:=c3.kn.dels (c3.en.drop c.en.length),en:=c3.en.take c.en.length }=res from HRES.out);have hlen:=HEXT.out c3 rfl;have hlen2:=HC1E.out;obtain ⟨⟨vs,vp,vo,ve,kb,ob,hv⟩,hbd⟩:=HC8.out;obtain ⟨Ae,ce,rfl⟩:=q0l hv.oe;have hsome:∃ ge,Ae=some ⟨ge,0,none⟩/\c3.en.length<=ce/\ce<=maxLen:=by
  rcases hv.oe.2 with ⟨h,h0⟩ | ⟨g',cap,cur,h,_,_,h1,h2,_⟩
  ·omega
  ·cases h;exact ⟨g',rfl,h1,h2⟩
 obtain ⟨ge,rfl,hce,hcm⟩:=hsome;have HV8:=Hi hv;have HBD:=Hi hbd;have hcmm:ce<=9223372036854775807:=hcm;obtain ⟨ah,hah⟩:∃ ah,c.en.length=ah:=⟨_,rfl⟩;rw [hah] at hlen2 HQ2 ⊢;have hah1:ah < c3.en.length:=V0;have hne:¬ ce=ah:=V0;have i1:(0:Int)<=(ah:Int):=V0;have i2:(ah:Int)<=(c3.en.length:Int):=V0;have c5:w8.cell? ⟨g,5,none⟩=some (.slice (some ⟨ge,0,none⟩) c3.en.length ce):=hv.blk.cell 5;have c3':w8.cell? ⟨g,3,none⟩=some (.map (some kb)):=hv.blk.cell 3;obtain ⟨dl,hdl⟩:∃ dl,c3.en.drop ah=dl:=⟨_,rfl⟩;have hdll:dl.length=c3.en.length - ah:=by rw [<-hdl];simp
 have hLd:Lies w8 (some ⟨ge,ah,none⟩) (dl.map strV):=fun j u hj=>by
  refine ⟨_,rfl,?_⟩;rw [Args.add_plain];have:=hv.oe.cells (g:=ge) rfl (ah+j) u (by rw [<-hdl,List.map_drop,List.getElem?_drop] at hj;exact hj);rw [Args.add_plain] at this;simpa using this
 have hgk:¬ ge=kb:=fun e=>hv.ne.2.1.2.2.2.2 (by rw [<-e];rfl)
 obtain ⟨nd,hnd⟩:∃ nd,c3.en.length - ah=nd:=⟨_,rfl⟩;rw [hnd] at hdll;have hndm:nd<=9223372036854775807:=V0;have HLD:=Hi hLd;have HDL:=Hi hdl;have HND:=Hi hdll;have HENL:=Hi HC8.out.enl;rw [hdl] at HQ2;clear hc8 hu8 hv hbd hah HEXT HST2 HC1E hlen hLd hdl hdll;go_wp2_with fail
 (try rw [hnd]);clear hnd
 go_loopw [45] (fun vi wr=>∃ i:Nat,i<=nd/\vi = .int .i64 (i:Int)/\Hid (CV (In2 N w wn) lo wr g vs vp vo (.slice (some ⟨ge,0,none⟩) c3.en.length ce) kb ob c3.se c3.pu c3.ou c3.en (c3.kn.dels (dl.take i)) (outF c3.ou) (m+1+nbzs lb2))/\Hid (Upd N w wr)/\Hid (Upd (fun b=>b=kb) w8 wr)) (fun vi _=>nd - (intOf vi).toNat)
 case atStart=>exact ⟨0,V0,rfl,Hi (by
  have h0:c3.kn.dels (dl.take 0)=c3.kn:=by funext t;simp [Kn.dels]
  rw [h0];exact HV8.out),HU8,Hi (Upd.refl _ _)⟩
 case round=>
  obtain ⟨i,hi,rfl,HV,HU,HK⟩:=hrel;have hv:=HV.out;have d3:wr.cell? ⟨g,3,none⟩=some (.map (some kb)):=hv.blk.cell 3;have d5:wr.cell? ⟨g,5,none⟩=some (.slice (some ⟨ge,0,none⟩) c3.en.length ce):=hv.blk.cell 5;have d5f:wr.frozen? ⟨g,5,none⟩=false:=hv.blk.frozen 5;have hgl2:=hv.blk.lt;by_cases hlt:i < nd
  ·obtain ⟨p,hp⟩:∃ p,dl[i]?=some p:=⟨_,List.getElem?_eq_getElem (by have:=HND.out;omega)⟩;have f1:(dl.map strV)[i]?=some (.string ⟨p.toArray⟩):=Vs;obtain ⟨b',o',hbo,hbl,hc1⟩:=(HK.out.lies HLD.out fun b o e _ hx=>by cases e;exact hgk hx).at_ f1;cases hbo;have g1:=hc1 _ _ f1;have hpm:p.length<=maxLen:=HENL.out p (List.mem_of_mem_drop (by rw [HDL.out];exact List.mem_of_getElem? hp));obtain ⟨w9,hrun,hm9,ht9⟩:=hv.mp.del hpm 0;have hz9:Upd (fun b=>b=kb) wr w9:=q08 ht9 rfl;have HV9:Hid (CV (In2 N w wn) lo w9 g vs vp vo (.slice (some ⟨ge,0,none⟩) c3.en.length ce) kb ob c3.se c3.pu c3.ou c3.en (c3.kn.dels (dl.take (i+1))) (outF c3.ou) (m+1+nbzs lb2)):=Hi (by
    rw [q44 hp,<-q6k];exact hv.kn' hz9 hm9 (Nat.le_refl _))
   have HU9:=Hi (q0i HU.out (hz9.mono fun b hb=>hb ▸ hv.inN _ V3 kb rfl) V9);have HK9:=Hi (HK.out.trans hz9);clear hv hc1 f1 hp hm9 ht9 hz9 d5 d5f;go_wp2_with fail
   go_roundw
   case rel=>exact ⟨i+1,V0,V5,HV9,HU9,HK9⟩
   case measure=>simp [intOf];omega
  ·obtain rfl:i=nd:=by omega
   have htk:dl.take i=dl:=List.take_of_length_le (by have:=HND.out;omega);have hv2:=hv;rw [htk] at hv2;have i3:(ah:Int)<=(ce:Int):=V0;have hot:=q7G (k:=ah) hv2.oe V0 V3;have hown:wr.ownsRow lo 9 1 (.slice (some ⟨ge,0,none⟩) ah ce) (c3.en.take ah).length ((c3.en.take ah).map strV):=by
    rw [List.length_take,show min ah c3.en.length=ah from V0,List.map_take];rw [Nat.mul_one] at hot;exact hot
   have hfin:=hv2.ve' (en':=c3.en.take ah) (Upd.refl _ _) hown (.inl rfl);have HEND:=Hi (show StatP N lo w g res (m+1+nbzs l) (.returned (.tuple #[])) (wr.setCell ⟨g,5,none⟩ (.slice (some ⟨ge,0,none⟩) ah ce)) from by
    rw [<-HQ2.out];have hb:=HBD.out;have hml:=HML.out;have hsu:=HU.out.size;refine ⟨rfl,⟨⟨vs,vp,vo,_,kb,ob,(hfin.more (show m+1+nbzs lb2<=m+1+nbzs l from V0)).mono fun b hb _ _=>?_⟩,⟨by show c3.se.length<=_;omega,by show c3.pu.length<=_;omega,by show c3.ou.length<=_;omega,by show (c3.en.take ah).length<=_;rw [List.length_take];omega⟩,fun t ht=>HENL.out t (List.mem_of_mem_take ht)⟩,?_⟩
    ·rcases hb with (h | h) | h
     ·exact .inl h.1
     ·exact .inr V9
     ·exact .inr V0
    ·exact q0i HU.out ((Upd.refl _ wr).setCell (p:=⟨g,5,none⟩) (fun _=>hv.inN _ V3 g rfl) _) V9)
   clear hv hv2 hot hown hfin htk d3;exact Vd
end Nm
end Go.Proofs.YtcgibpdjfgjldaaGreatDoor
