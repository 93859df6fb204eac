/- DERIVED. FlCu, FlCx, FlShi, FlCd, FlCl, FlXp, FlLb, FlSt, FlVa, FlOp. By an AI agent. -/
import Derived.Test.YtcgibpdjfgjldaaGreatDoorR28
set_option maxRecDepth 100000
set_option maxHeartbeats 8000000
set_option linter.unusedVariables false
set_option linter.unusedSimpArgs false
namespace Go.Proofs.YtcgibpdjfgjldaaGreatDoor
namespace Fl
open Go Go.ChangeShapes Go.WideShapes Go.ChangeAt Go.RowKit Lx Args Pa Sh Go.Proofs.YtcgibpdjfgjldaaGreatDoor.Nm
/-! The first parts, and those behind. -/
def FCut(w:World)(A:Option Addr)(n k:Nat)(e:Ending)(w':World):Prop:=∃ A1 c1 A2 c2,e = .returned (.tuple #[.slice A1 (min k n) c1,.slice A2 (n - k) c2])/\(min k n<=c1/\c1<=maxLen)/\(n - k<=c2/\c2<=maxLen)/\(∀ W xs,Af W A xs->Af W A1 xs)/\(0 < n - k->∀ W xs,Af W A xs->Af W A2 (xs.drop (k * 6)))/\Below w.heap.size w w'
theorem fcut(w:World)(A:Option Addr)(n c k:Nat)(hn:n<=c)(hc:c<=maxLen)(hk:k<=2) :
  Calls Tryz.prog 94 #[.slice A n c,.int .i64 (k:Int)] w (FCut w A n k):=by
 have hcm:c<=9223372036854775807:=hc;have HC:=Hi hc;rcases Nat.lt_or_ge n k with hlt | hge
 ·have h1:(n:Int) < (k:Int):=by omega
  have h2:(0:Int)<=(n:Int):=V0;have h3:(n:Int)<=(c:Int):=V0;have hm:min k n=n:=V0;have hd:n - k = 0:=V0;go_enter Tryz.func94,Tryz.ntmps94;go_wp2_with fail
  go_region
  go_wp2_with fail
  all_goals (
   (try simp only [show min (k:Int) (n:Int)=(n:Int) from V0,Int.toNat_natCast,Nat.sub_self])
   go_ret2
   unfold FCut;rw [hm,hd];exact ⟨_,_,_,_,rfl,⟨V0,V6⟩,⟨Nat.zero_le _,V6⟩,fun _ _ h=>h,fun h=>absurd h (Nat.lt_irrefl _),Below.drew (Below.refl _ _)⟩)
 ·have h1:¬ (n:Int) < (k:Int):=by omega
  have h2:(0:Int)<=(k:Int):=V0;have h3:(k:Int)<=(c:Int):=V0;have h4:(k:Int)<=(n:Int):=V0;have hm:min k n=k:=V0;go_enter Tryz.func94,Tryz.ntmps94;go_wp2_with fail
  go_region
  go_wp2_with fail
  all_goals (
   (try simp only [show min (k:Int) (n:Int)=(k:Int) from V0,Int.toNat_natCast])
   go_ret2
   unfold FCut;rw [hm];refine ⟨_,_,_,_,rfl,⟨V0,V6⟩,⟨V0,V6⟩,fun _ _ h=>?_,fun hd W xs hL=>?_,Below.drew (Below.refl _ _)⟩
   ·exact V42
   ·first | exact q3q hL (k * 6) | (exfalso;omega))
structure Cx(w0:World)(g fb kb:Nat)(fu:Fu)(kn:Kw)(w:World):Prop where
 bel:Below w0.heap.size w0 w
 low:w0.heap.size<=g
 fun_:∃ m,FuM w0 w fb m fu
 kno:∃ m,MpW w kb m kn
 nef:fb≠g
 nek:kb≠g
 fok:okF fu fu
theorem Cx.upd{w0 w w':World}{g fb kb:Nat}{fu:Fu}{kn:Kw}(h:Cx w0 g fb kb fu kn w)(hu:Upd (fun b=>b=g) w w'):Cx w0 g fb kb fu kn w':=by
 obtain ⟨h1,h2,⟨m,h3⟩,⟨m',h4⟩,h5,h6,h7⟩:=h;exact ⟨h1.trans (hu.below (B:=w0.heap.size) h1.size fun b hb=>V0),h2,⟨m,h3.upd hu h5⟩,⟨m',h4.upd hu h6⟩,h5,h6,h7⟩
theorem Cx.below{w0 w w':World}{g fb kb:Nat}{fu:Fu}{kn:Kw}(h:Cx w0 g fb kb fu kn w)(hb:Below w.heap.size w w'):Cx w0 g fb kb fu kn w':=h.upd (Upd.of_below hb _)
structure Bx where
 vk:Value
 fb:Nat
 vl:Value
 vr:Value
 rd:Int
abbrev bxA(x:Bx)(nd ca:Int):Array Value:=#[x.vk,.map (some x.fb),x.vl,x.vr,.int .i64 x.rd,.int .i64 nd,.int .i64 ca]
def XP(g:Nat)(x:Bx)(ca:Int)(w:World)(r:Rf (Bool×Int))(e:Ending)(w':World):Prop:=
 match r with
 | .ok q=>e = .returned (.bool q.1)/\Aa w' g 118 (bxA x q.2 ca)/\Upd (fun b=>b=g) w w'
 | .bad a er=>e=panF a er/\Upd (fun b=>b=g) w w'
theorem XP.from{g:Nat}{x:Bx}{ca:Int}{w w1 w':World}{r:Rf (Bool×Int)}{e:Ending}(h:XP g x ca w1 r e w')(hu:Upd (fun b=>b=g) w w1):XP g x ca w r e w':=by
 cases r with
 | ok q=>exact ⟨h.1,h.2.1,hu.trans h.2.2⟩
 | bad a er=>exact ⟨h.1,hu.trans h.2⟩
abbrev XM:Int:=20000
abbrev xC(fu:Fu)(c:Nat):Sub:=exC aX XM fu c
def XAt(w0:World)(g:Nat)(fu:Fu)(c:Nat)(z:Tz):Prop:=
 ∀ (x:Bx) (w:World) (kb:Nat) (kn:Kw) (nd ca:Int) (k a:Int) (s:Bs) (n:Nat) (A:Option Addr) (la cA:Nat) (B:Option Addr) (lb cB:Nat),ca+(c:Int) = 61->Cx w0 g x.fb kb fu kn w->TrV w0 z k a s n A la cA B lb cB->okC fu z->Aa w g 118 (bxA x nd ca) ->
  Calls Tryz.prog 171 #[.pointer (some ⟨g,0,none⟩),aO k a s n A la cA B lb cB,.map (some kb)] w (XP g x ca w (xC fu c kn z nd))
def XsP(g:Nat)(x:Bx)(ca:Int)(w:World)(r:Rf (List Bool×Int))(e:Ending)(w':World):Prop:=XP g x ca w (aP r fun q=>.ok (q.1.any id,q.2)) e w'
theorem q84(bs:List Bool)(b:Bool):(bs ++ [b]).any id=(b || bs.any id):=by
 rw [List.any_append];simp [Bool.or_comm]
theorem exprs_{w0:World}{g:Nat}{fu:Fu}{c:Nat}(l:List Tz)(H:∀ y∈l,XAt w0 g fu c y)(x:Bx)(w:World)(kb:Nat)(kn:Kw)(nd ca:Int)(A:Option Addr)(cA:Nat)(hca:ca+(c:Int) = 61)(hC:Cx w0 g x.fb kb fu kn w)(hP:Pts w0 A cA l)(hok:okCs fu l)(hB:Aa w g 118 (bxA x nd ca)) :
  Calls Tryz.prog 147 #[.pointer (some ⟨g,0,none⟩),.slice A l.length cA,.map (some kb)] w (XsP g x ca w (seqB (xC fu c kn) l nd)):=by
 have hlm:l.length<=9223372036854775807:=Nat.le_trans hP.le hP.cap;have HH:=Hi H;have HC:=Hi hC;have HP:=Hi hP;have HOK:=Hi hok;have HB:=Hi hB;have HCA:=Hi hca;obtain ⟨res,hres⟩:∃ res,aP (seqB (xC fu c kn) l nd) (fun q=>.ok (q.1.any id,q.2))=res:=⟨_,rfl⟩;unfold XsP;rw [hres];have Ad:=Hi hres;clear H hC hP hok hB hres hca;go_enter Tryz.func147,Tryz.ntmps147;go_wp2_with fail
 go_loopw [7,12] (fun vs vi wr=>∃ (i:Nat) (bs:List Bool) (sc:Bool) (ndi:Int),i<=l.length/\vs = .bool sc/\vi = .int .i64 (i:Int)/\Hid (sc=bs.any id)/\Hid (Aa wr g 118 (bxA x ndi ca))/\Hid (Upd (fun b=>b=g) w wr)/\Hid (aP (seqB (xC fu c kn) (l.drop i) ndi) (fun q=>.ok ((bs ++ q.1).any id,q.2))=res)) (fun _ vi _=>l.length - (intOf vi).toNat)
 case atStart=>exact ⟨0,[],false,nd,V0,rfl,rfl,Hi rfl,HB,Hi (Upd.refl _ _),Ad⟩
 case round=>
  obtain ⟨i,bs,sc,ndi,hi,rfl,rfl,HS,HBr,HU,HQ⟩:=hrel;have HCr:=Hi (HC.out.upd HU.out);by_cases hlt:i < l.length
  ·have hil:(i:Int) < (l.length:Int):=by omega
   obtain ⟨y,hy⟩:∃ y,l[i]?=some y:=⟨_,List.getElem?_eq_getElem hlt⟩;obtain ⟨bb,o,k',a',s',n',A',la',bu,B',lb',bA,hA,hTy,hbl,g0',g1,g2,g3,g4,g5⟩:=HP.out.at_ HCr.out.bel hy;subst hA;obtain ⟨wb,hwb,hbb,hXb,hsb⟩:=dw wr (nB k' a' s' n' A' la' bu B' lb' bA);have hgb:=HBr.out.lt;have hCc:=HH.out y (List.mem_of_getElem? hy) x wb kb kn ndi ca k' a' s' n' A' la' bu B' lb' bA HCA.out (HCr.out.below hbb) hTy (q4L HOK.out hy) (HBr.out.below hbb hgb);have hq:=HQ.out;rw [drop_at hy,q24,q1d] at hq;obtain ⟨⟨e0,e1,e2,e3,e4,e5⟩,z0,z1,z2,z3,z4,z5⟩:=Aa.c6 hXb;have HCC:=Hi hCc;have HWB:=Hi hwb;have AL:=Hi hq;have HUB:=Hi (HU.out.trans (Upd.of_below hbb _));have hbl2:bb < wr.heap.size:=Nat.lt_of_lt_of_le hbl HCr.out.bel.size;clear hCc hwb hbb hXb hq hTy hy hsb;generalize xC fu c kn y ndi=r2 at HCC AL;go_wp2_with fail
   rw [HWB.out];refine (show Calls Tryz.prog 171 #[.pointer (some ⟨g,0,none⟩),aO k' a' s' n' A' la' bu B' lb' bA,.map (some kb)] wb _ from HCC.out).mono ?_;intro e w4 h4;clear e0 e1 e2 e3 e4 e5 z0 z1 z2 z3 z4 z5;cases r2 with
   | bad a2 er2=>
    obtain ⟨rfl,aF⟩:=h4;have Ac:=Hi (show XP g x ca w res (panF a2 er2) w4 from by
     rw [<-show Rf.bad a2 er2=res from AL.out];exact ⟨rfl,HUB.out.trans aF⟩)
    exact VW
   | ok q=>
    obtain ⟨b2,nd2⟩:=q;obtain ⟨rfl,hB4,aF⟩:=h4;have HB4:=Hi hB4;have AO:=Hi (HUB.out.trans aF);have HS4:=Hi (show (b2 || sc)=(bs ++ [b2]).any id by rw [q84,HS.out]);have HQ3:=Hi (show aP (seqB (xC fu c kn) (l.drop (i+1)) nd2) (fun q=>.ok (((bs ++ [b2]) ++ q.1).any id,q.2))=res by
     rw [<-AL.out];show _=aP (aP (seqB (xC fu c kn) (l.drop (i+1)) nd2) fun r=>.ok (b2 :: r.1,r.2)) fun q=>.ok ((bs ++ q.1).any id,q.2)
     rw [q1d]
     congr 1
     funext r
     show _=Rf.ok ((bs ++ b2 :: r.1).any id,r.2);rw [List.append_assoc];rfl)
    clear hB4 aF;cases b2 with
    | true=>
     go_wp2_with fail
     go_roundw
     case rel=>exact ⟨i+1,bs ++ [true],true,nd2,V0,rfl,V7,HS4,HB4,AO,HQ3⟩
     case measure=>simp [intOf];omega
    | false=>
     go_wp2_with fail
     go_roundw
     case rel=>exact ⟨i+1,bs ++ [false],sc,nd2,V0,rfl,V7,HS4,HB4,AO,HQ3⟩
     case measure=>simp [intOf];omega
  ·obtain rfl:i=l.length:=by omega
   have hq:=HQ.out;rw [List.drop_length,q5k] at hq;have hq':Rf.ok ((bs ++ []).any id,ndi)=res:=hq;rw [List.append_nil,<-HS.out] at hq';have Ac:=Hi (show XP g x ca w res (.returned (.bool sc)) wr from by rw [<-hq'];exact ⟨rfl,HBr.out,HU.out⟩);clear hq hq';exact VD
def CutL(w0:World)(l:List Tz)(k:Nat)(w:World)(e:Ending)(w':World):Prop:=
 ∃ (l1 l2:List Tz) (A1:Option Addr) (c1:Nat) (A2:Option Addr) (c2:Nat),l1=l.take k/\l2=l.drop k/\e = .returned (.tuple #[.slice A1 l1.length c1,.slice A2 l2.length c2])/\Pts w0 A1 c1 l1/\Pts w0 A2 c2 l2/\Below w.heap.size w w'
theorem cutL{w0:World}{A:Option Addr}{c:Nat}{l:List Tz}(w:World)(k:Nat)(hP:Pts w0 A c l)(hk:k<=2):Calls Tryz.prog 94 #[.slice A l.length c,.int .i64 (k:Int)] w (CutL w0 l k w):=by
 refine (fcut w A l.length c k hP.le hP.cap hk).mono fun e w' h=>?_
 obtain ⟨A1,c1,A2,c2,rfl,⟨h1,h2⟩,⟨h3,h4⟩,h5,h6,hb⟩:=h;have e1:min k l.length=(l.take k).length:=by rw [List.length_take]
 have e2:l.length - k=(l.drop k).length:=by rw [List.length_drop]
 refine ⟨_,_,A1,c1,A2,c2,rfl,rfl,by rw [e1,e2],hP.take k (by rw [<-e1];exact h1) h2 h5,hP.drop k (by rw [<-e2];exact h3) h4 h6,hb⟩
theorem shift_{w0:World}{g:Nat}{fu:Fu}{c:Nat}(ps:List Bs)(l:List Tz)(H:∀ y∈l,XAt w0 g fu c y)(x:Bx)(w:World)(kb:Nat)(kn:Kw)(nd ca:Int)(k a:Int)(s:Bs)(n:Nat)(A:Option Addr)(la cA:Nat)(B:Option Addr)(lb cB:Nat)(hca:ca+(c:Int) = 61)(hC:Cx w0 g x.fb kb fu kn w)(hT:TrV w0 (.mk k a s n ps l) k a s n A la cA B lb cB)(hok:okCs fu l)(hB:Aa w g 118 (bxA x nd ca)) :
  Calls Tryz.prog 194 #[.pointer (some ⟨g,0,none⟩),aO k a s n A la cA B lb cB,.map (some kb)] w (XP g x ca w (shR aX XM fu c kn l nd)):=by
 obtain ⟨-,-,-,-,rfl,rfl,hP,-,-,-,-,-,-⟩:=hT.parts;obtain ⟨wn,hwn,hbn,aK,hsn⟩:=dw w (nB k a s n A l.length cA B ps.length cB);obtain ⟨⟨e0,e1,e2,e3,e4,e5⟩,z0,z1,z2,z3,z4,z5⟩:=Aa.c6 aK;have HH:=Hi H;have HC:=Hi (hC.below hbn);have HP:=Hi hP;have HOK:=Hi hok;have HB:=Hi (hB.below hbn hB.lt);have HCA:=Hi hca;have HW:=Hi hwn;have HU:=Hi (Upd.of_below hbn (fun b=>b=g));have HCU:=Hi (cutL wn 1 hP V2);obtain ⟨res,hres⟩:∃ res,shR aX XM fu c kn l nd=res:=⟨_,rfl⟩;rw [hres];have Ad:=Hi hres;clear H hC hT hP hok hB hres hca hwn hbn aK hsn;go_enter Tryz.func194,Tryz.ntmps194;go_upto_region 1 with fail
 rw [HW.out];go_wp2_with fail
 refine (show Calls Tryz.prog 94 #[.slice A l.length cA,.int .i64 1] wn _ from HCU.out).mono ?_;rintro e w1 ⟨l1,l2,A1,c1,A2,c2,h1,h2,rfl,hP1,hP2,hb1⟩;have HC1:=Hi (HC.out.below hb1);have HB1:=Hi (HB.out.below hb1 HB.out.lt);have Aj:=Hi (HU.out.trans (Upd.of_below hb1 _));have HL1:=Hi h1;have HL2:=Hi h2;have Be:=Hi hP1;have HCU2:=Hi (cutL w1 1 hP2 V2);clear h1 h2 hP1 hP2 hb1 HCU e0 e1 e2 e3 e4 e5 z0 z1 z2 z3 z4 z5;go_wp2_with fail
 refine (show Calls Tryz.prog 94 #[.slice A2 l2.length c2,.int .i64 1] w1 _ from HCU2.out).mono ?_;rintro e w2 ⟨l3,l4,A3,c3,A4,c4,h3,h4,rfl,hP3,hP4,hb2⟩;have HC2:=Hi (HC1.out.below hb2);have HB2:=Hi (HB1.out.below hb2 HB1.out.lt);have Ai:=Hi (Aj.out.trans (Upd.of_below hb2 _));have HP3:=Hi hP3;have hr3:(match bM (bL kn) l3 with | some e=>Rf.bad e.2.1 (badB kn e) | none=>aP (seqB (xC fu c kn) l1 nd) fun q=>.ok (q.1.any id,q.2))=res:=by
  rw [<-Ad.out,h3,HL2.out,HL1.out];rfl
 have HR3:=Hi hr3;have hl3:l3.length<=9223372036854775807:=Nat.le_trans hP3.le hP3.cap;clear h3 h4 hP3 hP4 hb2 HCU2 hr3 Ad;go_wp2_with fail
 go_loopw [26] (fun vi wr=>∃ i:Nat,i<=l3.length/\vi = .int .i64 (i:Int)/\Hid (Aa wr g 118 (bxA x nd ca))/\Hid (Upd (fun b=>b=g) w wr)/\Hid (Below w2.heap.size w2 wr)/\Hid (bM (bL kn) (l3.drop i)=bM (bL kn) l3)) (fun vi _=>l3.length - (intOf vi).toNat)
 case atStart=>exact ⟨0,V0,rfl,HB2,Ai,Hi (Below.refl _ _),Hi rfl⟩
 case round=>
  obtain ⟨i,hi,rfl,HBr,HUr,HBW,HQ⟩:=hrel;have HCr:=Hi (HC2.out.below HBW.out);by_cases hlt:i < l3.length
  ·have hil:(i:Int) < (l3.length:Int):=by omega
   obtain ⟨y,hy⟩:∃ y,l3[i]?=some y:=⟨_,List.getElem?_eq_getElem hlt⟩;obtain ⟨bb,o,k',a',s',n',A',la',bu,B',lb',bA,hA,hTy,hbl,g0',g1,g2,g3,g4,g5⟩:=HP3.out.at_ HCr.out.bel hy;subst hA;obtain ⟨wb,hwb,hbb,hXb,hsb⟩:=dw wr (nB k' a' s' n' A' la' bu B' lb' bA);obtain ⟨mk,hmk⟩:=(HCr.out.below hbb).kno;have hCc:=mustBe (w0:=w0) wb y k' a' s' n' A' la' bu B' lb' bA (HCr.out.below hbb).bel hmk hTy;have hq:=HQ.out;rw [drop_at hy,q2j] at hq;obtain ⟨⟨e0,e1,e2,e3,e4,e5⟩,z0,z1,z2,z3,z4,z5⟩:=Aa.c6 hXb;have HCC:=Hi hCc;have HWB:=Hi hwb;have AL:=Hi hq;have Ay:=Hi hbb;have hbl2:bb < wr.heap.size:=Nat.lt_of_lt_of_le hbl HCr.out.bel.size;clear hCc hwb hbb hXb hq hTy hy hsb hmk;generalize strB (bL kn) y=r2 at HCC AL;go_wp2_with fail
   rw [HWB.out];refine (show Calls Tryz.prog 148 #[aO k' a' s' n' A' la' bu B' lb' bA,.map (some kb)] wb _ from HCC.out).mono ?_;intro e w4 h4;clear e0 e1 e2 e3 e4 e5 z0 z1 z2 z3 z4 z5;cases r2 with
   | some r2=>
    obtain ⟨rfl,hb4⟩:=h4;have HQ3:=AL.out;have Ac:=Hi (show XP g x ca w res (panF r2.2.1 (badB kn r2)) w4 from by
     rw [<-HR3.out,<-show some r2=bM (bL kn) l3 from HQ3];exact ⟨rfl,HUr.out.trans (Upd.of_below (Ay.out.trans (hb4.mono Ay.out.size)) _)⟩)
    clear hb4 HQ3;exact Vk
   | none=>
    obtain ⟨rfl,hb4⟩:=h4;have hb4':=Ay.out.trans (hb4.mono Ay.out.size);have H1:=Hi (HBr.out.below hb4' HBr.out.lt);have H2:=Hi (HUr.out.trans (Upd.of_below hb4' _));have H3:=Hi (HBW.out.trans (hb4'.mono HBW.out.size));have HQ3:=Hi (show bM (bL kn) (l3.drop (i+1))=bM (bL kn) l3 from AL.out);clear hb4 hb4';go_wp2_with fail
    go_roundw
    case rel=>exact ⟨i+1,V0,V7,H1,H2,H3,HQ3⟩
    case measure=>simp [intOf];omega
  ·obtain rfl:i=l3.length:=by omega
   have hq:=HQ.out;rw [List.drop_length] at hq
   conv at hq=>lhs;unfold bM
   have hr:=HR3.out;rw [<-hq] at hr;have HE:=Hi (exprs_ l1 (fun y hy=>HH.out y (List.mem_of_mem_take (by rw [HL1.out] at hy;exact hy))) x wr kb kn nd ca A1 c1 HCA.out HCr.out Be.out (by rw [HL1.out];exact q4j 1 HOK.out) HBr.out);unfold XsP at HE;rw [show (aP (seqB (xC fu c kn) l1 nd) fun q=>.ok (q.1.any id,q.2))=res from hr] at HE;clear hq hr;go_wp2_with fail
   refine (show Calls Tryz.prog 147 #[.pointer (some ⟨g,0,none⟩),.slice A1 l1.length c1,.map (some kb)] wr _ from HE.out).mono ?_;intro e w4 h4;have h4':=h4.from HUr.out;exact V2d
theorem Cx.updX{w0 w w':World}{g fb kb:Nat}{fu:Fu}{kn:Kw}{X:Nat->Prop}(h:Cx w0 g fb kb fu kn w)(hu:Upd X w w')(hX:∀ b,X b->w0.heap.size<=b)(hf:¬ X fb)(hk:¬ X kb):Cx w0 g fb kb fu kn w':=by
 obtain ⟨h1,h2,⟨m,h3⟩,⟨m',h4⟩,h5,h6,h7⟩:=h;exact ⟨h1.trans (hu.below (B:=w0.heap.size) h1.size hX),h2,⟨m,h3.upd hu hf⟩,⟨m',h4.upd hu hk⟩,h5,h6,h7⟩
theorem Cx.other{w0 w:World}{g fb kb kb':Nat}{fu:Fu}{kn kn':Kw}(h:Cx w0 g fb kb fu kn w){m:Nat}(hm:MpW w kb' m kn')(hk:kb'≠g):Cx w0 g fb kb' fu kn' w:=⟨h.bel,h.low,h.fun_,⟨m,hm⟩,h.nef,hk,h.fok⟩
theorem called_{w0:World}{g:Nat}{fu:Fu}{c:Nat}(H:∀ z,XAt w0 g fu c z)(ps:List Bs)(l:List Tz)(x:Bx)(w:World)(kb:Nat)(kn:Kw)(nd ca:Int)(a:Int)(s:Bs)(n:Nat)(A:Option Addr)(la cA:Nat)(B:Option Addr)(lb cB:Nat)(hca:ca+(c:Int) = 61)(hC:Cx w0 g x.fb kb fu kn w)(hT:TrV w0 (.mk 5 a s n ps l) 5 a s n A la cA B lb cB)(hok:okC fu (.mk 5 a s n ps l))(hB:Aa w g 118 (bxA x nd ca)) :
  Calls Tryz.prog 206 #[.pointer (some ⟨g,0,none⟩),aO 5 a s n A la cA B lb cB,.map (some kb)] w (XP g x ca w (aP (seqB (xC fu c kn) l nd) fun q=>calB fu (xC fu c) s q)):=by
 obtain ⟨-,-,-,-,rfl,rfl,hP,hs,-,-,-,-,-⟩:=hT.parts;obtain ⟨har,hokl⟩:=q4k hok;obtain ⟨wn,hwn,hbn,aK,hsn⟩:=dw w (nB 5 a s n A l.length cA B ps.length cB);obtain ⟨⟨e0,e1,e2,e3,e4,e5⟩,z0,z1,z2,z3,z4,z5⟩:=Aa.c6 aK;have HH:=Hi H;have HC:=Hi (hC.below hbn);have HP:=Hi hP;have HOK:=Hi hokl;have HB:=Hi (hB.below hbn hB.lt);have HCA:=Hi hca;have HW:=Hi hwn;have HU:=Hi (Upd.of_below hbn (fun b=>b=g));have HXN:=Hi aK;obtain ⟨res,hres⟩:∃ res,(aP (seqB (xC fu c kn) l nd) fun q=>calB fu (xC fu c) s q)=res:=⟨_,rfl⟩;rw [hres];have Ad:=Hi hres;have hgl:=aK.lt;have hgw:=hB.lt;obtain ⟨gn,hgn⟩:∃ gn,w.heap.size=gn:=⟨_,rfl⟩;have HGN:=Hi hgn;rw [hgn] at e0 e1 e2 e3 e4 e5 z0 z1 z2 z3 z4 z5 HXN hgl hgw;have HGW:=Hi hgw;have HSN:=Hi hsn;clear H hC hT hP hok hB hres hca hwn hbn aK hsn hokl hgw;go_enter Tryz.func206,Tryz.ntmps206;go_upto_region 1 with fail
 rw [HW.out];by_cases hsel:s=[115,101,108]
 ·subst hsel;have hr:(aP (seqB (xC fu c kn) l nd) fun q=>.ok (q.1.any id,q.2))=res:=by
   rw [<-Ad.out]
   congr 1
  have HE:=Hi (exprs_ l (fun y _=>HH.out y) x wn kb kn nd ca A cA HCA.out HC.out HP.out HOK.out HB.out);unfold XsP at HE;rw [hr] at HE;clear hr har;go_wp2_with fail
  refine (show Calls Tryz.prog 147 #[.pointer (some ⟨g,0,none⟩),.slice A l.length cA,.map (some kb)] wn _ from HE.out).mono ?_;exact V1B
 have fsel:(s==[115,101,108])=false:=by simpa using hsel
 have har2:=har rfl hsel;obtain ⟨f,hf,hfl⟩:∃ f,fu s=some f/\l.length<=f.1.length:=by
  unfold arB at har2;cases hfs:fu s with
  | none=>rw [hfs] at har2;cases har2
  | some f=>rw [hfs] at har2;exact ⟨f,rfl,of_decide_eq_true har2⟩
 obtain ⟨mf,kd,hkd,hfu⟩:=HC.out.fun_;have hfs:=hfu s;rw [hf] at hfs;obtain ⟨d,hd,hFD⟩:=hfs;have hcal:∀ q:List Bool×Int,calB fu (xC fu c) s q=aP (seqB (xC fu c (parB f.1 q.1)) (f.2.take 1) q.2) fun r=>.ok (r.1.any id,r.2):=fun q=>by
  unfold calB;rw [if_neg (show ¬ s=sel from hsel),hf]
 have HCAL:=Hi hcal;have hokf:=HC.out.fok s f hf;obtain ⟨hT1,hlp,hlf,hnf⟩:=hFD;obtain ⟨cp1,cp2⟩:=q3p hT1;obtain ⟨dk,da,ds,dn,dA,dla,dcA,dB,dlb,dcB⟩:=d;have hT1':TIc True w0 (.mk dk da ds dn f.1 f.2) (nzC dk da ds dn dA dla dcA dB dlb dcB):=hT1;obtain ⟨-,-,-,-,rfl,rfl,hl2,hp2,hLB,css,hLA,hSA⟩:=q0B hT1';have HPF:=Hi (show Pts w0 dA dcA f.2 from ⟨⟨css,hLA,hSA⟩,cp1,cp2,hlf,hnf⟩);have HLB:=Hi hLB;have HLP:=Hi hlp;have HOKF:=Hi hokf;have HFL:=Hi hfl;have hdr0:Below wn.heap.size wn wn.drew:=Below.drew (Below.refl _ _);obtain ⟨wd,hwd⟩:∃ v,wn.drew=v:=⟨_,rfl⟩;rw [hwd] at hdr0;have HLK:=Hi (show ∀ v,Below wd.heap.size wd v->(Instr.lookup 73 (.map (some x.fb)) (.string ⟨s.toArray⟩) false).run Tryz.prog v = .ok (.agg (nB dk da ds dn dA f.2.length dcA dB f.1.length dcB)) v from fun v hv=>by
  have h:=q6T (hkd.upd (Upd.of_below (hdr0.trans (hv.mono hdr0.size)) fun _=>False) id) hs;rw [hd] at h;exact h)
 have hsd:wd.heap.size=gn+1:=by rw [<-hwd];show wn.heap.size=_;rw [HSN.out,HGN.out]
 have Az:=Hi (HB.out.below hdr0 HB.out.lt);have HXD:=Hi (HXN.out.below hdr0 HXN.out.lt);obtain ⟨w2,hw2,hb2d,hX2,hs2d⟩:=dw wd (nB dk da ds dn dA f.2.length dcA dB f.1.length dcB);rw [hsd] at hX2;have hzA:=Aa.new wd 26 #[.int .i64 0,.string ⟨#[]⟩,.int .u32 0,.int .i64 0,.slice none 0 0,.slice none 0 0];rw [hsd] at hzA;have hbA:Below wd.heap.size wd (wd.alloc (.cells #[.int .i64 0,.string ⟨#[]⟩,.int .u32 0,.int .i64 0,.slice none 0 0,.slice none 0 0] 26)):=(Below.refl _ _).alloc (Nat.le_refl _) _;have HZA:=Hi hzA;have AA:=Hi hbA;have HB2D:=Hi hb2d;have hb2:Below wn.heap.size wn w2:=hdr0.trans (hb2d.mono hdr0.size);have hs2:w2.heap.size=wn.heap.size+1:=by rw [hs2d,hsd,HSN.out,HGN.out]
 obtain ⟨w3,hw3⟩:∃ w3,w2.alloc (.map #[] 0)=w3:=⟨_,rfl⟩;have hb3:Below w2.heap.size w2 w3:=V1K;have hs3:w3.heap.size=w2.heap.size+1:=by rw [<-hw3];simp
 have hm3:MpW w3 w2.heap.size 0 (fun _=>none):=by rw [<-hw3];exact MpG.made codW w2
 obtain ⟨pb,hpb⟩:∃ pb,w2.heap.size=pb:=⟨_,rfl⟩;have hmk:(Instr.makeMap 116 none).run Tryz.prog w2 = .ok (.map (some pb)) w3:=by rw [<-hw3,<-hpb];exact run_makeMap _ _
 rw [hpb] at hm3;have aG:=hb2.trans (hb3.mono hb2.size);have Aq:=Hi (hX2.below hb3 hX2.lt);have HXN3:=Hi (HXN.out.below aG HXN.out.lt);have HC3:=Hi (HC.out.below aG);have HB3:=Hi (HB.out.below aG HB.out.lt);have Aw:=Hi (HU.out.trans (Upd.of_below aG _));have HM3:=Hi hm3;have HW2:=Hi hw2;have HW3:=Hi hw3;have hpg:gn+2=pb:=by rw [<-hpb,hs2,HSN.out,HGN.out]
 have HPG:=Hi hpg;have hs2':w2.heap.size=gn+2:=by rw [hpb,<-hpg]
 have HNG:=Hi (show ¬ (gn+1=g\/gn+1=pb) from by have:=HGW.out;omega);have hlm:l.length<=9223372036854775807:=Nat.le_trans HP.out.le HP.out.cap;have hkf:¬ x.fb=pb:=by have:=hkd.lt;omega
 have hkk:¬ kb=pb:=by
  obtain ⟨mm,hmm⟩:=HC.out.kno;have:=hmm.lt;omega
 have HKF:=Hi (show ¬ (x.fb=g\/x.fb=pb) from fun h=>h.elim HC.out.nef hkf);have HKK:=Hi (show ¬ (kb=g\/kb=pb) from fun h=>h.elim HC.out.nek hkk);have hgw2:g < wn.heap.size:=HB.out.lt;have HWD:=Hi hwd;clear har har2 hf hfl hkd hfu hd hcal hokf hT1 hlp hlf hnf cp1 cp2 hT1' hl2 hp2 hLB hLA hSA hw2 hb2 hb2d hX2 hw3 hb3 hs3 hm3 aG hsel hdr0 hzA hbA hwd hs2d;go_upto_region 3 with fail
 have hwd:=HWD.out;clear e0 e1 e2 e3 e4 e5 z0 z1 z2 z3 z4 z5 HWD;have aa:Below wd.heap.size wd wd:=Below.refl _ _;refine HT.wp_region (Z:=fun w'=>Below wd.heap.size wd w') (S:=fun _=>True) (st:=[]) V1 ?_;rw [hwd];clear hwd;refine HT.m 0 aa ?_;refine HT.m 1 aa ?_;refine HT.m 2 aa ?_;refine HT.k 3 rfl (by intro v hSw;have hA:=Az.out.below hSw Az.out.lt;obtain ⟨c0,c1,c2,c3,c4,c5,c6⟩:=Aa.c7 hA;have hga:=hA.lt;clear hSw hA;go_simp;try with_reducible rfl) aa ?_;refine HT.k 4 rfl V3G aa ?_;refine HT.k 5 rfl V3G aa ?_;refine HT.k 6 rfl (by intro v hSw;have hl:=HLK.out v hSw;clear hSw;go_simp;try with_reducible rfl) aa ?_;refine HT.one (i:=7) V1 rfl (fun K hK=>?_);go_simp;(try dsimp only);refine hK.out _ _ AA.out trivial ?_;clear hK K;(try simp only [HT.pS]);obtain ⟨⟨e0,e1,e2,e3,e4,e5⟩,z0,z1,z2,z3,z4,z5⟩:=Aa.c6 HZA.out;have hgz:=HZA.out.lt;refine HT.one (i:=8) V1 rfl (fun K hK=>?_);go_simp;rw [HW2.out];(try dsimp only);refine hK.out _ _ HB2D.out trivial ?_;clear hK K;(try simp only [HT.pS]);refine HT.done V1 ?_;clear e0 e1 e2 e3 e4 e5 z0 z1 z2 z3 z4 z5 hgz aa HLK;obtain ⟨⟨e0,e1,e2,e3,e4,e5⟩,z0,z1,z2,z3,z4,z5⟩:=Aa.c6 HXN3.out;have hgl3:=HXN3.out.lt;go_wp2_with fail
 clear e0 e1 e2 e3 e4 e5 z0 z1 z2 z3 z4 z5 hgl3
 go_loopw [32] (fun vi wr=>∃ (i:Nat) (bs:List Bool) (ndi:Int),i<=l.length/\vi = .int .i64 (i:Int)/\Hid (bs.length=i)/\Hid (MpW wr pb i (parB (f.1.take i) bs))/\Hid (Aa wr g 118 (bxA x ndi ca))/\Hid (Upd (fun b=>b=g\/b=pb) w3 wr)/\Hid (aP (seqB (xC fu c kn) (l.drop i) ndi) (fun q=>calB fu (xC fu c) s (bs ++ q.1,q.2))=res)) (fun vi _=>l.length - (intOf vi).toNat)
 case atStart=>exact ⟨0,[],nd,V0,rfl,Hi rfl,HM3,HB3,Hi (Upd.refl _ _),Ad⟩
 case round=>
  obtain ⟨i,bs,ndi,hi,rfl,HBL,HMP,HBr,HUr,HQ⟩:=hrel;have HCr:=Hi (HC3.out.updX HUr.out (fun b hb=>by have:=HC3.out.low;have:=HC.out.bel.size;have:=HSN.out;have:=HGN.out;have:=HPG.out;omega) HKF.out HKK.out);have HXr:=Hi (Aq.out.upd HUr.out HNG.out);by_cases hlt:i < l.length
  ·have hil:(i:Int) < (l.length:Int):=by omega
   obtain ⟨y,hy⟩:∃ y,l[i]?=some y:=⟨_,List.getElem?_eq_getElem hlt⟩;obtain ⟨bb,o,k',a',s',n',A',la',bu,B',lb',bA,hA,hTy,hbl,g0',g1,g2,g3,g4,g5⟩:=HP.out.at_ HCr.out.bel hy;subst hA;obtain ⟨wb,hwb,hbb,hXb,hsb⟩:=dw wr (nB k' a' s' n' A' la' bu B' lb' bA);have hif:i < f.1.length:=Nat.lt_of_lt_of_le hlt HFL.out;obtain ⟨p,hp⟩:∃ p,f.1[i]?=some p:=⟨_,List.getElem?_eq_getElem hif⟩;have f1:(f.1.map ai)[i]?=some (.string ⟨p.toArray⟩):=VE;obtain ⟨b9,o9,hB9,hb9,hc9⟩:=HLB.out.at_ f1;subst hB9;have hdr:Below wb.heap.size wb wb.drew:=Below.drew (Below.refl _ _);obtain ⟨wd,hwd⟩:∃ v,wb.drew=v:=⟨_,rfl⟩;rw [hwd] at hdr;have hbd:=hbb.trans (hdr.mono hbb.size);have hCd:=HCr.out.below hbd;have hgr:g < wr.heap.size:=HBr.out.lt;have HFd:=Hi (HXr.out.below hbd HXr.out.lt);have HNF:=HNG;have HPd:=Hi (hXb.below hdr hXb.lt);have HNP:=Hi (show ¬ (wr.heap.size=g\/wr.heap.size=pb) from by have:=HMP.out.lt;omega);have HNM:=Hi (show wd.cell? ⟨b9,o9+i,none⟩=some (.string ⟨p.toArray⟩) from (hCd.bel.cell hb9).trans (hc9 _ _ f1));have HNL:=Hi (show b9 < wd.heap.size from Nat.lt_of_lt_of_le hb9 hCd.bel.size);have HNN:=Hi (show ¬ (b9=g\/b9=pb) from by have:=hCd.low;have:=HC.out.bel.size;have:=HSN.out;have:=HGN.out;have:=HPG.out;omega);have hCc:=HH.out y x wd kb kn ndi ca k' a' s' n' A' la' bu B' lb' bA HCA.out hCd hTy (q4L HOK.out hy) (HBr.out.below hbd hgr);have hq:=HQ.out;rw [drop_at hy,q24,q1d] at hq;obtain ⟨⟨e0,e1,e2,e3,e4,e5⟩,z0,z1,z2,z3,z4,z5⟩:=Aa.c6 hXb;have HCC:=Hi hCc;have HWB:=Hi hwb;have AL:=Hi hq;have HMd:=Hi (HMP.out.upd (Upd.of_below hbd fun _=>False) id);have HPL:=Hi (HLP.out p (List.mem_of_getElem? hp));have HPI:=Hi hp;have hbl2:bb < wr.heap.size:=Nat.lt_of_lt_of_le hbl HCr.out.bel.size;have hifi:(i:Int) < (f.1.length:Int):=V0;have HUd:=Hi (HUr.out.trans (Upd.of_below hbd _));have HNPG:=Hi (show ¬ pb=g from by have:=HGW.out;have:=HPG.out;omega);have HWD:=Hi hwd;clear hCc hwb hbb hXb hq hTy hy hsb hp f1 hb9 hc9 hdr hbd hCd hwd;generalize xC fu c kn y ndi=r2 at HCC AL;go_upto_region 8 with fail
   rw [HWB.out];have hwd:=HWD.out;clear e0 e1 e2 e3 e4 e5 z0 z1 z2 z3 z4 z5 HWD;have aa:Upd (fun b=>b=g\/b=pb) wd wd:=Upd.refl _ _;refine HT.wp_region (Z:=fun w'=>Upd (fun b=>b=g\/b=pb) wd w') (S:=fun _=>True) (st:=[]) V1 ?_;rw [hwd];clear hwd;refine HT.m 0 aa ?_;refine HT.k 1 rfl V3H aa ?_;refine HT.k 2 rfl V3H aa ?_;refine HT.m 3 aa ?_;refine HT.m 4 aa ?_;refine HT.k 5 rfl (by intro v hSw;have e1:=(hSw.cell HNL.out HNN.out).trans HNM.out;have hga:=Nat.lt_of_lt_of_le HNL.out hSw.size;clear hSw;go_simp;try with_reducible rfl) aa ?_;refine HT.m 6 aa ?_;refine HT.k 7 rfl (by intro v hSw;have hA:=HPd.out.upd hSw HNP.out;have E_:=Aa.c6 hA;have hga:=hA.lt;clear hSw hA;go_simp;try with_reducible rfl) aa ?_;refine HT.m 8 aa ?_;refine HT.one (i:=9) V1 rfl (fun K hK=>?_);go_simp;refine (show Calls Tryz.prog 171 #[.pointer (some ⟨g,0,none⟩),aO k' a' s' n' A' la' bu B' lb' bA,.map (some kb)] wd _ from HCC.out).mono ?_;intro e w4 h4;cases r2 with
   | bad a2 er2=>
    obtain ⟨rfl,aF⟩:=h4;have Ac:=Hi (show XP g x ca w res (panF a2 er2) w4 from by
     rw [<-show Rf.bad a2 er2=res from AL.out];exact ⟨rfl,dm (dm Aw.out HUd.out fun b hb hlt=>by have:=HPG.out;have:=HGN.out;omega) aF fun b hb _=>hb⟩)
    exact Vl
   | ok q=>
    obtain ⟨b2,nd2⟩:=q;obtain ⟨rfl,hB4,aF⟩:=h4;have hz4:Upd (fun b=>b=g\/b=pb) wd w4:=aF.mono fun b hb=>.inl hb
    obtain ⟨w6,hrun,hM6,ht6⟩:=q3H (HMd.out.upd aF HNPG.out) HPL.out (Nat.lt_of_lt_of_le hlt (Nat.le_trans HP.out.le HP.out.cap)) ⟨b2,none⟩;have di:Upd (fun b=>b=g\/b=pb) wd w6:=hz4.trans (q0f ht6 (.inr rfl));have hB6:Aa w6 g 118 (bxA x nd2 ca):=hB4.upd (q0f (X:=fun b=>b=pb) ht6 rfl) (fun h=>HNPG.out h.symm);have hrun':(Instr.mapUpdate 116 (.map (some pb)) (.string ⟨p.toArray⟩) (.agg #[.bool b2,.bool false,.int .u32 0])).run Tryz.prog w4 = .ok () w6:=hrun;(try dsimp only);refine hK.out _ _ hz4 trivial ?_;clear hK K;(try simp only [HT.pS]);refine HT.m 10 hz4 ?_;refine HT.one (i:=11) V1 rfl (fun K hK=>?_);go_simp;(try dsimp only);refine hK.out _ _ di trivial ?_;clear hK K;(try simp only [HT.pS]);refine HT.done V1 ?_;have H1:=Hi hB6;have H2:=Hi (HUd.out.trans di);have H3:=Hi (show (bs ++ [b2]).length=i+1 by rw [List.length_append,HBL.out];rfl);have hti:(f.1.take i).length=bs.length:=by rw [List.length_take,HBL.out];omega
    have H4:=Hi (show MpW w6 pb (i+1) (parB (f.1.take (i+1)) (bs ++ [b2])) by
     rw [show f.1.take (i+1)=f.1.take i ++ [p] from by rw [List.take_add_one,HPI.out];rfl,q5m _ _ _ _ hti];exact hM6)
    have H5:=Hi (show aP (seqB (xC fu c kn) (l.drop (i+1)) nd2) (fun q=>calB fu (xC fu c) s ((bs ++ [b2]) ++ q.1,q.2))=res by
     rw [<-AL.out];show _=aP (aP (seqB (xC fu c kn) (l.drop (i+1)) nd2) fun r=>.ok (b2 :: r.1,r.2)) fun q=>calB fu (xC fu c) s (bs ++ q.1,q.2)
     rw [q1d]
     congr 1
     funext r
     show _=calB fu (xC fu c) s (bs ++ b2 :: r.1,r.2);rw [List.append_assoc];rfl)
    clear aa hz4 di hB4 aF hB6 hM6 ht6 hrun hrun' hti;go_wp2_with fail
    go_roundw
    case rel=>exact ⟨i+1,bs ++ [b2],nd2,V0,V7,H3,H4,H1,H2,H5⟩
    case measure=>simp [intOf];omega
  ·obtain rfl:i=l.length:=by omega
   have hq:=HQ.out;rw [List.drop_length,q5k] at hq;have hq':calB fu (xC fu c) s (bs ++ [],ndi)=res:=hq;rw [List.append_nil,HCAL.out] at hq';have hpar:parB f.1 bs=parB (f.1.take l.length) bs:=by rw [q5l f.1 bs,HBL.out]
   have hM:=HMP.out;rw [<-hpar] at hM;have HCu:=Hi (cutL (w0:=w0) wr 1 HPF.out V2);have HCo:=Hi (HCr.out.other hM (by have:=HGW.out;have:=HPG.out;omega));have AL:=Hi hq';obtain ⟨⟨e0,e1,e2,e3,e4,e5⟩,z0,z1,z2,z3,z4,z5⟩:=Aa.c6 HXr.out;have hxl:=HXr.out.lt;clear hq hq' hpar hM;go_wp2_with fail
   refine (show Calls Tryz.prog 94 #[.slice dA f.2.length dcA,.int .i64 1] wr _ from HCu.out).mono ?_;rintro e w5 ⟨l1,l2,A1,c1',A2,c2,h1,h2,rfl,hP1,hP2,hb5⟩;have HE:=Hi (exprs_ l1 (fun y _=>HH.out y) x w5 pb (parB f.1 bs) ndi ca A1 c1' HCA.out (HCo.out.below hb5) hP1 (by rw [h1];exact HOKF.out) (HBr.out.below hb5 HBr.out.lt));unfold XsP at HE;rw [h1] at HE;rw [show (aP (seqB (xC fu c (parB f.1 bs)) (f.2.take 1) ndi) fun q=>.ok (q.1.any id,q.2))=res from AL.out,<-h1] at HE;have AR:=Hi (show Upd (fun b=>b=g) w w5 from dm (dm Aw.out HUr.out fun b hb hlt=>by have:=HPG.out;have:=HGN.out;omega) (Upd.of_below hb5 (fun b=>b=g)) fun b hb _=>hb);clear h1 h2 hP1 hP2 hb5 e0 e1 e2 e3 e4 e5 z0 z1 z2 z3 z4 z5;go_wp2_with fail
   refine (show Calls Tryz.prog 147 #[.pointer (some ⟨g,0,none⟩),.slice A1 l1.length c1',.map (some pb)] w5 _ from HE.out).mono ?_;intro e w6 h6;have h6':=h6.from AR.out;clear h6;cases res with
   | bad a2 er2=>
    obtain ⟨rfl,bX⟩:=h6';have Ac:=Hi (show XP g x ca w (.bad a2 er2) (panF a2 er2) w6 from ⟨rfl,bX⟩);clear bX;exact Vk
   | ok q=>
    obtain ⟨b2,nd2⟩:=q;obtain ⟨rfl,hB6,bX⟩:=h6';have Ac:=Hi (show XP g x ca w (.ok (b2,nd2)) (.returned (.bool b2)) w6 from ⟨rfl,hB6,bX⟩);clear hB6 bX;exact VD
theorem call_{w0:World}{g:Nat}{fu:Fu}{c:Nat}(H:∀ c',c=c'+1->∀ z,XAt w0 g fu c' z)(ps:List Bs)(l:List Tz)(x:Bx)(w:World)(kb:Nat)(kn:Kw)(nd ca:Int)(a:Int)(s:Bs)(n:Nat)(A:Option Addr)(la cA:Nat)(B:Option Addr)(lb cB:Nat)(hc:c<=61)(hca:ca+(c:Int) = 61)(hC:Cx w0 g x.fb kb fu kn w)(hT:TrV w0 (.mk 5 a s n ps l) 5 a s n A la cA B lb cB)(hok:okC fu (.mk 5 a s n ps l))(hB:Aa w g 118 (bxA x nd ca)) :
  Calls Tryz.prog 193 #[.pointer (some ⟨g,0,none⟩),aO 5 a s n A la cA B lb cB,.map (some kb)] w (XP g x ca w (calR aX XM fu c kn a s l nd)):=by
 obtain ⟨wn,hwn,hbn,aK,hsn⟩:=dw w (nB 5 a s n A la cA B lb cB);obtain ⟨⟨e0,e1,e2,e3,e4,e5⟩,z0,z1,z2,z3,z4,z5⟩:=Aa.c6 aK;have HC:=Hi (hC.below hbn);have hBn:=hB.below hbn hB.lt;have HB:=Hi hBn;obtain ⟨c0,c1,c2,c3,c4,c5,c6⟩:=Aa.c7 hBn;have f6:=hBn.frozen 6;have hgl:=hBn.lt;have HW:=Hi hwn;have HU:=Hi (Upd.of_below hbn (fun b=>b=g));have HXN:=Hi aK;have hne:w.heap.size≠g:=by have:=hB.lt;omega
 have HNE:=Hi hne;have HT:=Hi hT;have HOK:=Hi hok;have HH:=Hi H;clear hC hT hok hB hwn hbn aK hsn hBn hne H;have bad:∀ w':World,Upd (fun b=>b=g) w w'->XP g x ca w (.bad a 150) (panF a 150) w':=fun w' h=>⟨rfl,h⟩
 have HBAD:=Hi bad;clear bad;cases c with
 | zero=>
  have hca':ca = 61:=V0;subst hca';show Calls _ _ _ _ (XP g x 61 w (.bad a 150));exact V3a
 | succ c=>
  have hca1:ca<=60:=V0;have hca0:0<=ca:=V0;have h60:¬ (60:Int) < ca:=V0;by_cases hnd:XM < nd
  ·have hr:calR aX XM fu (c+1) kn a s l nd = .bad a 150:=by
    unfold calR;show (if XM < nd then _ else _)=_;rw [if_pos hnd]
   rw [hr];have hnd':(20000:Int) < nd:=hnd;clear hr hnd;exact V3a
  ·have hr:calR aX XM fu (c+1) kn a s l nd=aP (seqB (xC fu c kn) l nd) fun q=>calB fu (xC fu c) s q:=by
    unfold calR;show (if XM < nd then _ else _)=_;rw [if_neg hnd]
   rw [hr];have hnd':¬ (20000:Int) < nd:=hnd;obtain ⟨w2,hw2⟩:∃ w2,wn.setCell ⟨g,6,none⟩ (.int .i64 (ca+1))=w2:=⟨_,rfl⟩;obtain ⟨cb,hcb⟩:∃ cb,ca+1=cb:=⟨_,rfl⟩;have hu2:Upd (fun b=>b=g) wn w2:=by rw [<-hw2];exact (Upd.refl (fun b=>b=g) wn).setCell (p:=⟨g,6,none⟩) (fun _=>rfl) _
   have hB2:Aa w2 g 118 (bxA x nd cb):=by rw [<-hw2,<-hcb];exact HB.out.set 6 _
   have HE:=Hi (called_ (HH.out c rfl) ps l x w2 kb kn nd cb a s n A la cA B lb cB V0 (HC.out.upd hu2) HT.out HOK.out hB2);have Ai:=Hi (HU.out.trans hu2);have HW2:=Hi hw2;have HCB:=Hi hcb;have Ah:=HXN.out.upd hu2 HNE.out;obtain ⟨res,hres⟩:∃ res,(aP (seqB (xC fu c kn) l nd) fun q=>calB fu (xC fu c) s q)=res:=⟨_,rfl⟩;rw [hres] at HE ⊢;obtain ⟨⟨k0,k1,k2,k3,k4,k5⟩,y0,y1,y2,y3,y4,y5⟩:=Aa.c6 Ah;clear hr hnd hw2 hcb hu2 hB2 hres Ah hca;go_enter Tryz.func193,Tryz.ntmps193;go_upto_region 1 with fail
   rw [HW.out];go_upto_region 4 with fail
   rw [HW2.out];go_wp2_with fail
   refine (show Calls Tryz.prog 206 #[.pointer (some ⟨g,0,none⟩),aO 5 a s n A la cA B lb cB,.map (some kb)] w2 _ from HE.out).mono ?_;intro e w4 h4;have h4':=h4.from Ai.out;clear h4 e0 e1 e2 e3 e4 e5 z0 z1 z2 z3 z4 z5 k0 k1 k2 k3 k4 k5 y0 y1 y2 y3 y4 y5 c0 c1 c2 c3 c4 c5 c6 f6;cases res with
   | bad a2 er2=>
    obtain ⟨rfl,aF⟩:=h4';have Ac:=Hi (show XP g x ca w (.bad a2 er2) (panF a2 er2) w4 from ⟨rfl,aF⟩);exact VW
   | ok q=>
    obtain ⟨b2,nd2⟩:=q;obtain ⟨rfl,hB4,aF⟩:=h4';obtain ⟨c0,c1,c2,c3,c4,c5,c6⟩:=Aa.c7 hB4;have f6:=hB4.frozen 6;have hg4:=hB4.lt;have hcb1:1<=cb:=by have:=HCB.out;omega
    have hcb2:cb<=61:=by have:=HCB.out;omega
    have Ac:=Hi (show XP g x ca w (.ok (b2,nd2)) (.returned (.bool b2)) (w4.setCell ⟨g,6,none⟩ (.int .i64 (cb - 1))) from ⟨rfl,by
     have h:=hB4.set 6 (.int .i64 (cb - 1));rw [show cb - 1=ca from by have:=HCB.out;omega] at h ⊢;exact h,aF.setCell (p:=⟨g,6,none⟩) (fun _=>rfl) _⟩)
    clear hB4 aF;exact VD
section
attribute [local go_sem] fFa0
theorem expr_{w0:World}{g:Nat}{fu:Fu}{c:Nat}(hc:c<=61)(H:∀ c',c=c'+1->∀ z,XAt w0 g fu c' z)(k1 a1:Int)(s1:Bs)(n1:Nat)(ps:List Bs)(l:List Tz)(HL:∀ y∈l,XAt w0 g fu c y):XAt w0 g fu c (.mk k1 a1 s1 n1 ps l):=by
 intro x w kb kn nd ca k a s n A la cA B lb cB hca hC hT hok hB;have hT0:=hT;obtain ⟨rfl,rfl,rfl,rfl,rfl,rfl,hP,hs,-,-,-,-,-⟩:=hT.parts;rw [show xC fu c kn (.mk k a s n ps l) nd=_ from exC_mk c kn k a s n ps l nd];obtain ⟨wn,hwn,hbn,aK,hsn⟩:=dw w (nB k a s n A l.length cA B ps.length cB);have hBn:=hB.below hbn hB.lt;obtain ⟨c0,c1,c2,c3,c4,c5,c6⟩:=Aa.c7 hBn;have f5:=hBn.frozen 5;have hgl:=hBn.lt;have hne:w.heap.size≠g:=by have:=hB.lt;omega
 obtain ⟨w2,hw2⟩:∃ w2,wn.setCell ⟨g,5,none⟩ (.int .i64 (nx nd))=w2:=⟨_,rfl⟩;have hu2:Upd (fun b=>b=g) wn w2:=by rw [<-hw2];exact (Upd.refl (fun b=>b=g) wn).setCell (p:=⟨g,5,none⟩) (fun _=>rfl) _
 have hB2:Aa w2 g 118 (bxA x (nx nd) ca):=by rw [<-hw2];exact hBn.set 5 _
 have hC2:=(hC.below hbn).upd hu2;have hX2:=aK.upd hu2 hne;obtain ⟨⟨e0,e1,e2,e3,e4,e5⟩,z0,z1,z2,z3,z4,z5⟩:=Aa.c6 hX2;have hgn:=hX2.lt;have HW:=Hi hwn;have HU:=Hi ((Upd.of_below hbn (fun b=>b=g)).trans hu2);have HW2:=Hi hw2;have HC2:=Hi hC2;have HB2:=Hi hB2;have HP:=Hi hP;have HOK:=Hi (q4k hok).2;have HH:=Hi H;have HLL:=Hi HL;have Ah:=Hi hX2;have HT:=Hi hT0;have HOKC:=Hi hok;have HCA:=Hi hca;have HS:=Hi hs;have hwr:wrap64 (nd+1)=nx nd:=by unfold wrap64 nx;rfl
 obtain ⟨res,hres⟩:∃ res,(if k = 5 then calR aX XM fu c kn a s l (nx nd) else if k = 4 then shR aX XM fu c kn l (nx nd) else aP (seqB (xC fu c kn) l (nx nd)) fun q=>.ok (if k = 1 then secB kn s else if k = 2\/k = 3 then q.1.any id else false,q.2))=res:=⟨_,rfl⟩;rw [hres];have Ad:=Hi hres;clear H hC hT hT0 hok hB hwn hbn aK hsn hBn hne hw2 hu2 hB2 hC2 hX2 hP hs hca HL hres;go_enter Tryz.func171,Tryz.ntmps171;go_upto_region 1 with fail
 rw [HW.out];go_upto_region 2 with fail
 (try rw [hwr]);rw [HW2.out];clear c0 c1 c2 c3 c4 c5 c6 f5 hwr;by_cases hk5:k = 5
 ·subst hk5;have HR:=Hi (show calR aX XM fu c kn a s l (nx nd)=res from V24);have HE:=Hi (call_ HH.out ps l x w2 kb kn (nx nd) ca a s n A l.length cA B ps.length cB hc HCA.out HC2.out HT.out HOKC.out HB2.out);rw [HR.out] at HE;clear HR Ad;go_wp2_with fail
  refine (show Calls Tryz.prog 193 #[.pointer (some ⟨g,0,none⟩),aO 5 a s n A l.length cA B ps.length cB,.map (some kb)] w2 _ from HE.out).mono ?_;exact V1B
 by_cases hk4:k = 4
 ·subst hk4;have HR:=Hi (show shR aX XM fu c kn l (nx nd)=res from V1P);have HE:=Hi (shift_ ps l HLL.out x w2 kb kn (nx nd) ca 4 a s n A l.length cA B ps.length cB HCA.out HC2.out HT.out HOK.out HB2.out);rw [HR.out] at HE;clear HR Ad;go_wp2_with fail
  refine (show Calls Tryz.prog 194 #[.pointer (some ⟨g,0,none⟩),aO 4 a s n A l.length cA B ps.length cB,.map (some kb)] w2 _ from HE.out).mono ?_;exact V1B
 have i5:(k==5)=false:=by simpa using hk5
 have i4:(k==4)=false:=by simpa using hk4
 have hr:(aP (seqB (xC fu c kn) l (nx nd)) fun q=>.ok (if k = 1 then secB kn s else if k = 2\/k = 3 then q.1.any id else false,q.2))=res:=by rw [<-Ad.out,if_neg hk5,if_neg hk4]
 have HE:=Hi (exprs_ l HLL.out x w2 kb kn (nx nd) ca A cA HCA.out HC2.out HP.out HOK.out HB2.out);unfold XsP at HE;obtain ⟨r1,hr1⟩:∃ r1,seqB (xC fu c kn) l (nx nd)=r1:=⟨_,rfl⟩;rw [hr1] at HE hr;have HR:=Hi hr;clear hr hr1 Ad;go_wp2_with fail
 refine (show Calls Tryz.prog 147 #[.pointer (some ⟨g,0,none⟩),.slice A l.length cA,.map (some kb)] w2 _ from HE.out).mono ?_;intro e w4 h4;have h4':=h4.from HU.out;cases r1 with
 | bad a2 er2=>
  obtain ⟨rfl,aF⟩:=h4';have Ac:=Hi (show XP g x ca w res (panF a2 er2) w4 from by rw [<-show Rf.bad a2 er2=res from HR.out];exact ⟨rfl,aF⟩);clear aF h4;exact Vk
 | ok q=>
  obtain ⟨bs,nd2⟩:=q;obtain ⟨rfl,hB4,aF⟩:=h4';have hu24:Upd (fun b=>b=g) w2 w4:=h4.2.2;have hX4:=Ah.out.upd hu24 (by
   have:=HC2.out.low;intro h;have h1:=HB2.out;have h2:=Ah.out;rw [h] at h2;unfold Aa at h1 h2;rw [h1] at h2;simp at h2)
  have hC4:=HC2.out.upd hu24;obtain ⟨mk,hmk⟩:=hC4.kno;have hlk:=q2X hmk HS.out;unfold wkV at hlk;rw [q3G] at hlk;generalize (wkAt kn s).aN.isSome=l1 at hlk;generalize loN (wkAt kn s).aN=l2 at hlk;clear e0 e1 e2 e3 e4 e5 z0 z1 z2 z3 z4 z5 hgn;obtain ⟨⟨e0,e1,e2,e3,e4,e5⟩,z0,z1,z2,z3,z4,z5⟩:=Aa.c6 hX4;have hgn:=hX4.lt;have Ac:=Hi (show XP g x ca w res (.returned (.bool (if k = 1 then secB kn s else if k = 2\/k = 3 then bs.any id else false))) w4 from by
   rw [<-show Rf.ok (if k = 1 then secB kn s else if k = 2\/k = 3 then bs.any id else false,nd2)=res from HR.out];exact ⟨rfl,hB4,aF⟩)
  clear hB4 aF h4 hu24 hX4 hC4 hmk HR;generalize secB kn s=sc at hlk Ac;generalize bs.any id=sb at Ac ⊢;by_cases hk1:k = 1
  ·subst hk1;exact VD
  have i1:(k==1)=false:=by simpa using hk1
  by_cases hk2:k = 2
  ·subst hk2;exact VD
  have i2:(k==2)=false:=by simpa using hk2
  by_cases hk3:k = 3
  ·subst hk3;exact VD
  have i3:(k==3)=false:=by simpa using hk3
  have HE2:=Hi (show XP g x ca w res (.returned (.bool false)) w4 from by
   have h:=Ac.out;rw [if_neg hk1,if_neg (fun h=>h.elim hk2 hk3)] at h;exact h)
  clear hk1 hk2 hk3 hk4 hk5 Ac hlk;go_wp2_with fail
  go_ret;exact HE2.out
theorem q6V{x:Tz}{k a:Int}{n:Nat}{s:Bs}{ps:List Bs}{l:List Tz}(h:x∈l):SizeOf.sizeOf x < SizeOf.sizeOf (Tz.mk k a s n ps l):=by
 have h1:=List.sizeOf_lt_of_mem h;simp only [Tz.mk.sizeOf_spec];omega
theorem q85{w0:World}{g:Nat}{fu:Fu}:∀ (c:Nat),c<=61->∀ z,XAt w0 g fu c z:=by
 intro c
 induction c with
 | zero=>
  intro hc z;have h:∀ (m:Nat) (z:Tz),SizeOf.sizeOf z < m->XAt w0 g fu 0 z:=by
   intro m
   induction m with
   | zero=>intro z h;exact absurd h (Nat.not_lt_zero _)
   | succ m ih=>
    intro z hz;obtain ⟨k,a,s,n,ps,l⟩:=z;exact expr_ hc (fun c' h=>absurd h V0) k a s n ps l fun y hy=>ih y V1Q
  exact h (SizeOf.sizeOf z+1) z (Nat.lt_succ_self _)
 | succ c ihc=>
  intro hc z;have h:∀ (m:Nat) (z:Tz),SizeOf.sizeOf z < m->XAt w0 g fu (c+1) z:=by
   intro m
   induction m with
   | zero=>intro z h;exact absurd h (Nat.not_lt_zero _)
   | succ m ih=>
    intro z hz;obtain ⟨k,a,s,n,ps,l⟩:=z;exact expr_ hc (fun c' h z=>by
     have e:c'=c:=V0;subst e;exact ihc V0 z) k a s n ps l fun y hy=>ih y V1Q
  exact h (SizeOf.sizeOf z+1) z (Nat.lt_succ_self _)
end
end Fl
namespace Fl
open Go Lx Pa Sh Go.Proofs.YtcgibpdjfgjldaaGreatDoor.Nm
def lbC(o:Bs×Bool×Bool):List Value:=[.string ⟨o.1.toArray⟩,.bool o.2.1,.bool o.2.2]
end Fl
namespace Fl
open Go Go.ChangeShapes Go.WideShapes Go.ChangeAt Go.RowKit Lx Args Pa Sh Go.Proofs.YtcgibpdjfgjldaaGreatDoor.Nm
structure Gx where
 g:Nat
 kb:Nat
 fb:Nat
 rb:Nat
def ow(G:Gx)(vl:Value):Nat->Prop:=fun b=>b=G.g\/b=G.kb\/b=G.rb\/vl.ownBlock=some b
abbrev gxA(G:Gx)(vl:Value)(rd nd ca:Int):Array Value:=#[.map (some G.kb),.map (some G.fb),vl,.map (some G.rb),.int .i64 rd,.int .i64 nd,.int .i64 ca]
structure CG(w0 w:World)(G:Gx)(vl:Value)(fu:Fu)(k0:Kw)(c:Sf)(fm:Kw)(m:Nat):Prop where
 blk:Aa w G.g 118 (gxA G vl (c.rd:Int) c.nd 0)
 kno:MpW w G.kb m c.kn
 fre:MpW w G.rb m fm
 frk:∀ s,(fm s).isSome=((c.kn s).isSome && !(k0 s).isSome)
 dom:Dm k0 c.kn
 fun_:∃ mf,FuM w0 w G.fb mf fu
 lab:w.ownsRow w0.heap.size 36 3 vl c.ou.length (c.ou.flatMap lbC)
 dis:G.kb≠G.g/\G.rb≠G.g/\G.fb≠G.g/\G.rb≠G.kb/\G.fb≠G.kb/\G.fb≠G.rb/\(∀ b,vl.ownBlock=some b->b≠G.g/\b≠G.kb/\b≠G.rb/\b≠G.fb)
 low:∀ b,ow G vl b->w0.heap.size<=b
 oub:c.ou.length<=m
 rdb:c.rd<=2000
 bel:Below w0.heap.size w0 w
 fok:okF fu fu
section
variable {w0 w w' : World} {G : Gx} {vl : Value} {fu : Fu} {k0 : Kw} {c : Sf} {fm : Kw} {m : Nat}
theorem CG.lt(h:CG w0 w G vl fu k0 c fm m):∀ b,ow G vl b->b < w.heap.size:=fun b hb=>by
 rcases hb with rfl | rfl | rfl | hb
 ·exact h.blk.lt
 ·exact h.kno.lt
 ·exact h.fre.lt
 ·exact (Nm.av h.lab b hb).2
theorem CG.cx(h:CG w0 w G vl fu k0 c fm m):Cx w0 G.g G.fb G.kb fu c.kn w:=⟨h.bel,h.low _ (.inl rfl),h.fun_,⟨m,h.kno⟩,h.dis.2.2.1,h.dis.1,h.fok⟩
theorem CG.below(h:CG w0 w G vl fu k0 c fm m)(hb:Below w.heap.size w w'):CG w0 w' G vl fu k0 c fm m:=
 ⟨h.blk.below hb h.blk.lt,h.kno.upd (Upd.of_below hb fun _=>False) id,h.fre.upd (Upd.of_below hb fun _=>False) id,h.frk,h.dom,by
  obtain ⟨mf,hf⟩:=h.fun_;exact ⟨mf,hf.upd (Upd.of_below hb fun _=>False) id⟩,Nm.ae h.lab (Upd.of_below hb fun _=>False) fun _ _ h=>h,h.dis,h.low,h.oub,h.rdb,h.bel.trans (hb.mono h.bel.size),h.fok⟩
theorem CG.box(h:CG w0 w G vl fu k0 c fm m)(hu:Upd (fun b=>b=G.g) w w'){rd:Nat}{nd:Int}(hB:Aa w' G.g 118 (gxA G vl (rd:Int) nd 0))(hr:rd<=2000):CG w0 w' G vl fu k0 { c with rd:=rd,nd:=nd } fm m:=by
 have hd:=h.dis;refine ⟨hB,h.kno.upd hu hd.1,h.fre.upd hu hd.2.1,h.frk,h.dom,?_,Nm.ae h.lab hu fun b hb e=>(hd.2.2.2.2.2.2 b hb).1 e,hd,h.low,h.oub,hr,h.bel.trans (hu.below (B:=w0.heap.size) h.bel.size fun b hb=>hb ▸ h.low _ (.inl rfl)),h.fok⟩;obtain ⟨mf,hf⟩:=h.fun_;exact ⟨mf,hf.upd hu hd.2.2.1⟩
theorem CG.more(h:CG w0 w G vl fu k0 c fm m){m':Nat}(hm:m<=m'):CG w0 w G vl fu k0 c fm m':=⟨h.blk,h.kno.mono hm,h.fre.mono hm,h.frk,h.dom,h.fun_,h.lab,h.dis,h.low,Nat.le_trans h.oub hm,h.rdb,h.bel,h.fok⟩
end
def SetP(w0 w:World)(G:Gx)(vl:Value)(fu:Fu)(k0:Kw)(c:Sf)(m:Nat)(s:Bs)(v:Wk)(e:Ending)(w':World):Prop:=
 e = .returned (.tuple #[])/\∃ fm',CG w0 w' G vl fu k0 { c with kn:=c.kn.put s v } fm' (m+1)/\Upd (fun b=>b=G.kb\/b=G.rb) w w'
theorem set_{w0:World}(w:World)(G:Gx)(vl:Value)(fu:Fu)(k0:Kw)(c:Sf)(fm:Kw)(m:Nat)(hG:CG w0 w G vl fu k0 c fm m)(hm:m < maxLen)(s:Bs)(hs:s.length<=maxLen)(v:Wk) :
  Calls Tryz.prog 120 #[.pointer (some ⟨G.g,0,none⟩),.string ⟨s.toArray⟩,wkV v] w (SetP w0 w G vl fu k0 c m s v):=by
 obtain ⟨g,kb,fb,rb⟩:=G;obtain ⟨v1,v2,v3⟩:∃ q1 q2 q3,wkV v = .agg #[.bool q1,.bool q2,.int .u32 q3]:=⟨_,_,_,rfl⟩;obtain ⟨v3,hv⟩:=v3;rw [hv];obtain ⟨wn,hwn,hbn,aK⟩:=aS w #[.bool v1,.bool v2,.int .u32 v3] 180;have hGn:=hG.below hbn;have hlk:=q80 hGn.kno hs;obtain ⟨q1,q2,q3,hq⟩:∃ q1 q2 q3,wkV (wkAt c.kn s) = .agg #[.bool q1,.bool q2,.int .u32 q3]:=⟨_,_,_,rfl⟩;rw [hq] at hlk;obtain ⟨w2,hw2,hb2,-⟩:=aS wn #[.bool q1,.bool q2,.int .u32 q3] 180;have hG2:=hGn.below hb2;have hX2:=aK.below hb2 aK.lt;obtain ⟨c0,c1,c2,c3,c4,c5,c6⟩:=Aa.c7 hGn.blk;have hgl:=hGn.blk.lt;have HW:=Hi hwn;have HW2:=Hi hw2;have HG2:=Hi hG2;have Ah:=Hi hX2;have HV:=Hi hv;have HB2:=Hi (hbn.trans (hb2.mono hbn.size));have HGS:=Hi (show ∀ b,ow ⟨g,kb,fb,rb⟩ vl b->b < w.heap.size from hG.lt);have HM:=Hi hm;have HS:=Hi hs;obtain ⟨th,hth⟩:∃ th,(c.kn s).isSome=th:=⟨_,rfl⟩;rw [hth] at hlk;have HTH:=Hi hth;clear hwn hbn aK hGn hw2 hb2 hG2 hX2 hG hv hq hth hm hs;go_enter Tryz.func120,Tryz.ntmps120;go_upto_region 1 with fail
 rw [HW.out];go_upto_region 2 with fail
 rw [HW2.out];clear c0 c1 c2 c3 c4 c5 c6 hgl hlk;cases th with
 | false=>
  have hdr:Below w2.heap.size w2 w2.drew:=Below.drew (Below.refl _ _);obtain ⟨wd,hwd⟩:∃ u,w2.drew=u:=⟨_,rfl⟩;rw [hwd] at hdr;have HGd:=Hi (HG2.out.below hdr);have HXd:=Hi (Ah.out.below hdr Ah.out.lt);have HBd:=Hi (HB2.out.trans (hdr.mono HB2.out.size));obtain ⟨w5,hrun,hM5,ht5⟩:=q3H HGd.out.fre HS.out HM.out v;rw [HV.out] at hrun;have hz5:Upd (fun b=>b=rb) wd w5:=q0f ht5 rfl;have HNX:=Hi (show ¬ w.heap.size=rb from by have:=HGS.out rb (.inr (.inr (.inl rfl)));omega);have HNB:=Hi (show ¬ g=rb from fun h=>HGd.out.dis.2.1 h.symm);have hd:=HGd.out.dis;have hlow:=HGd.out.low;have HL5:=Hi (Nm.ae HGd.out.lab hz5 fun b hb e=>(hd.2.2.2.2.2.2 b hb).2.2.1 e);have HK5:=Hi (HGd.out.kno.upd hz5 (fun e=>hd.2.2.2.1 e.symm));have HB5:=Hi (HGd.out.blk.upd hz5 HNB.out);have AX:=Hi (HXd.out.upd hz5 HNX.out);have HF5:=Hi (show ∃ mf,FuM w0 w5 fb mf fu from by
   obtain ⟨mf,hf⟩:=HGd.out.fun_;exact ⟨mf,hf.upd hz5 hd.2.2.2.2.2.1⟩)
  have HM5:=Hi hM5;have HZ5:=Hi hz5;have HE5:=Hi (HGd.out.bel.trans (hz5.below (B:=w0.heap.size) HGd.out.bel.size fun b hb=>hb ▸ hlow _ (.inr (.inr (.inl rfl)))));clear hdr ht5 hM5 hd hlow;go_wp2_with fail
  have aa:Upd (fun b=>b=rb) wd wd:=Upd.refl _ _;refine HT.wp_region (Z:=fun w'=>Upd (fun b=>b=rb) wd w') (S:=fun _=>True) (st:=[]) V1 ?_;rw [hwd];clear hwd;refine HT.m 0 aa ?_;refine HT.m 1 aa ?_;refine HT.m 2 aa ?_;refine HT.k 3 rfl (by intro v hSw;have hA:=HGd.out.blk.upd hSw HNB.out;obtain ⟨c0,c1,c2,c3,c4,c5,c6⟩:=Aa.c7 hA;have hga:=hA.lt;clear hSw hA;go_simp;try with_reducible rfl) aa ?_;refine HT.m 4 aa ?_;refine HT.k 5 rfl (by intro v hSw;have hA:=HXd.out.upd hSw HNX.out;obtain ⟨d0,d1,d2,f0,f1,f2⟩:=Aa.c3 hA;have hga:=hA.lt;clear hSw hA;go_simp;try with_reducible rfl) aa ?_;refine HT.one (i:=6) V1 rfl (fun K hK=>?_);go_simp;(try dsimp only);refine hK.out _ _ hz5 trivial ?_;clear hK K;(try simp only [HT.pS]);refine HT.done V1 ?_;clear aa hz5 hrun;have hdr:Below w5.heap.size w5 w5.drew:=Below.drew (Below.refl _ _);obtain ⟨wy,hwd⟩:∃ u,w5.drew=u:=⟨_,rfl⟩;rw [hwd] at hdr;have HYB:=Hi (HB5.out.below hdr HB5.out.lt);have HYX:=Hi (AX.out.below hdr AX.out.lt);have HDR:=Hi hdr;obtain ⟨w7,hrun,hM7,ht7⟩:=q3H (HK5.out.upd (Upd.of_below hdr fun _=>False) id) HS.out HM.out v;rw [HV.out] at hrun;have hz7:Upd (fun b=>b=kb) wy w7:=q0f ht7 rfl;have hd:=HGd.out.dis;have HNX:=Hi (show ¬ w.heap.size=kb from by have:=HGS.out kb (.inr (.inl rfl));omega);have HNB:=Hi (show ¬ g=kb from fun h=>hd.1 h.symm);have hz57:Upd (fun b=>b=kb) w5 w7:=(Upd.of_below hdr _).trans hz7;have Ac:=Hi (show SetP w0 w ⟨g,kb,fb,rb⟩ vl fu k0 c m s v (.returned (.tuple #[])) w7 from by
   refine ⟨rfl,fm.put s v,⟨HYB.out.upd hz7 HNB.out,hM7,HM5.out.upd hz57 (fun e=>hd.2.2.2.1 e),fun t=>?_,fun t ht=>?_,?_,Nm.ae HL5.out hz57 fun b hb e=>(hd.2.2.2.2.2.2 b hb).2.1 e,hd,HGd.out.low,Nat.le_succ_of_le HGd.out.oub,HGd.out.rdb,HE5.out.trans (hz57.below (B:=w0.heap.size) HE5.out.size fun b hb=>hb ▸ HGd.out.low _ (.inr (.inl rfl))),HGd.out.fok⟩,?_⟩
   ·have h:=HGd.out.frk t;show ((fm.put s v) t).isSome=(((c.kn.put s v) t).isSome && !(k0 t).isSome);unfold Kw.put;by_cases e:t=s
    ·subst e;rw [if_pos rfl,if_pos rfl];have:(k0 t).isSome=false:=by
      cases hk:(k0 t).isSome with
      | false=>rfl
      | true=>
       have h1:=HGd.out.dom t hk;rw [HTH.out] at h1;cases h1
     rw [this];rfl
    ·rw [if_neg e,if_neg e];exact h
   ·exact V3d
   ·obtain ⟨mf,hf⟩:=HF5.out;exact ⟨mf,hf.upd hz57 hd.2.2.2.2.1⟩
   ·exact ((Upd.of_below HBd.out _).trans (HZ5.out.mono fun b hb=>.inr hb)).trans (hz57.mono fun b hb=>.inl hb))
  clear hdr ht7 hM7 hd hz57;exact V2s
 | true=>
  have hdr:Below w2.heap.size w2 w2.drew:=Below.drew (Below.refl _ _);obtain ⟨wy,hwd⟩:∃ u,w2.drew=u:=⟨_,rfl⟩;rw [hwd] at hdr;have HGd:=Hi (HG2.out.below hdr);have HYX:=Hi (Ah.out.below hdr Ah.out.lt);have HBd:=Hi (HB2.out.trans (hdr.mono HB2.out.size));have HYB:=Hi HGd.out.blk;obtain ⟨w7,hrun,hM7,ht7⟩:=q3H HGd.out.kno HS.out HM.out v;rw [HV.out] at hrun;have hz7:Upd (fun b=>b=kb) wy w7:=q0f ht7 rfl;have hd:=HGd.out.dis;have HNX:=Hi (show ¬ w.heap.size=kb from by have:=HGS.out kb (.inr (.inl rfl));omega);have HNB:=Hi (show ¬ g=kb from fun h=>hd.1 h.symm);have Ac:=Hi (show SetP w0 w ⟨g,kb,fb,rb⟩ vl fu k0 c m s v (.returned (.tuple #[])) w7 from by
   refine ⟨rfl,fm,⟨HYB.out.upd hz7 HNB.out,hM7,(HGd.out.fre.upd hz7 (fun e=>hd.2.2.2.1 e)).mono (Nat.le_succ m),fun t=>?_,fun t ht=>?_,?_,Nm.ae HGd.out.lab hz7 fun b hb e=>(hd.2.2.2.2.2.2 b hb).2.1 e,hd,HGd.out.low,Nat.le_succ_of_le HGd.out.oub,HGd.out.rdb,HGd.out.bel.trans (hz7.below (B:=w0.heap.size) HGd.out.bel.size fun b hb=>hb ▸ HGd.out.low _ (.inr (.inl rfl))),HGd.out.fok⟩,?_⟩
   ·have h:=HGd.out.frk t;show (fm t).isSome=(((c.kn.put s v) t).isSome && !(k0 t).isSome);unfold Kw.put;by_cases e:t=s
    ·subst e;rw [if_pos rfl,h,HTH.out];rfl
    ·rw [if_neg e];exact h
   ·exact V3d
   ·obtain ⟨mf,hf⟩:=HGd.out.fun_;exact ⟨mf,hf.upd hz7 hd.2.2.2.2.1⟩
   ·exact (Upd.of_below HBd.out _).trans (hz7.mono fun b hb=>.inl hb))
  clear hdr ht7 hM7 hd;exact V2s
theorem hd_seq(f:Tz->Int->Rf (Bool×Int))(l:List Tz)(nd:Int):hdB l nd f=aP (seqB f (l.take 1) nd) fun q=>.ok (q.1.any id,q.2):=by
 cases l with
 | nil=>rfl
 | cons x l=>
  rw [show (x :: l).take 1=[x] from rfl,q4M];rfl
def ValP(w0 w:World)(G:Gx)(vl:Value)(fu:Fu)(k0:Kw)(c:Sf)(fm:Kw)(m:Nat)(r:Rf (Bool×Int))(e:Ending)(w':World):Prop:=
 match r with
 | .ok q=>e = .returned (.bool q.1)/\CG w0 w' G vl fu k0 { c with nd:=q.2 } fm m/\Upd (fun b=>b=G.g) w w'
 | .bad a er=>e=panF a er/\Upd (fun b=>b=G.g) w w'
theorem value_{w0:World}(w:World)(G:Gx)(vl:Value)(fu:Fu)(k0:Kw)(c:Sf)(fm:Kw)(m:Nat)(hG:CG w0 w G vl fu k0 c fm m)(ps:List Bs)(l:List Tz)(k a:Int)(s:Bs)(n:Nat)(A:Option Addr)(la cA:Nat)(B:Option Addr)(lb cB:Nat)(hT:TrV w0 (.mk k a s n ps l) k a s n A la cA B lb cB)(hok:okCs fu (l.take 1)) :
  Calls Tryz.prog 121 #[.pointer (some ⟨G.g,0,none⟩),aO k a s n A la cA B lb cB] w (ValP w0 w G vl fu k0 c fm m (hdB l c.nd (xC fu 61 c.kn))):=by
 obtain ⟨-,-,-,-,rfl,rfl,hP,-,-,-,-,-,-⟩:=hT.parts;obtain ⟨wn,hwn,hbn,aK,hsn⟩:=dw w (nB k a s n A l.length cA B ps.length cB);obtain ⟨⟨e0,e1,e2,e3,e4,e5⟩,z0,z1,z2,z3,z4,z5⟩:=Aa.c6 aK;have HG:=Hi (hG.below hbn);have HOK:=Hi hok;have HP:=Hi hP;have HW:=Hi hwn;have HU:=Hi (Upd.of_below hbn (fun b=>b=G.g));have HCU:=Hi (cutL wn 1 hP V2);obtain ⟨res,hres⟩:∃ res,hdB l c.nd (xC fu 61 c.kn)=res:=⟨_,rfl⟩;rw [hres];rw [hd_seq] at hres;have Ad:=Hi hres;clear hG hT hP hok hwn hbn aK hsn hres;go_enter Tryz.func121,Tryz.ntmps121;go_upto_region 1 with fail
 rw [HW.out];go_wp2_with fail
 refine (show Calls Tryz.prog 94 #[.slice A l.length cA,.int .i64 1] wn _ from HCU.out).mono ?_;rintro e w1 ⟨l1,l2,A1,c1,A2,c2,h1,h2,rfl,hP1,hP2,hb1⟩;have hG1:=HG.out.below hb1;have Aj:=Hi (HU.out.trans (Upd.of_below hb1 _));have HG1:=Hi hG1;have HE:=Hi (exprs_ (fu:=fu) l1 (fun y _=>q85 61 (Nat.le_refl _) y) ⟨.map (some G.kb),G.fb,vl,.map (some G.rb),(c.rd:Int)⟩ w1 G.kb c.kn c.nd 0 A1 c1 V2 hG1.cx hP1 (by rw [h1];exact HOK.out) hG1.blk);unfold XsP at HE;rw [show (aP (seqB (xC fu 61 c.kn) l1 c.nd) fun q=>.ok (q.1.any id,q.2))=res from by rw [h1];exact Ad.out] at HE;obtain ⟨d0,d1,d2,d3,d4,d5,d6⟩:=Aa.c7 hG1.blk;have hgl:=hG1.blk.lt;clear h1 h2 hP1 hP2 hb1 hG1 Ad e0 e1 e2 e3 e4 e5 z0 z1 z2 z3 z4 z5;go_wp2_with fail
 refine (show Calls Tryz.prog 147 #[.pointer (some ⟨G.g,0,none⟩),.slice A1 l1.length c1,.map (some G.kb)] w1 _ from HE.out).mono ?_;intro e w4 h4;clear d0 d1 d2 d3 d4 d5 d6 hgl;cases res with
 | bad a2 er2=>
  obtain ⟨rfl,aF⟩:=h4;have Ac:=Hi (show ValP w0 w G vl fu k0 c fm m (.bad a2 er2) (panF a2 er2) w4 from ⟨rfl,Aj.out.trans aF⟩);exact VW
 | ok q=>
  obtain ⟨b2,nd2⟩:=q;obtain ⟨rfl,hB4,aF⟩:=h4;have Ac:=Hi (show ValP w0 w G vl fu k0 c fm m (.ok (b2,nd2)) (.returned (.bool b2)) w4 from ⟨rfl,HG1.out.box aF (rd:=c.rd) (nd:=nd2) hB4 HG1.out.rdb,Aj.out.trans aF⟩);clear hB4 aF;exact VD
end Fl
namespace Fl
open Lx Pa Sh Go.Proofs.YtcgibpdjfgjldaaGreatDoor.Nm
def opT:Tz->Tz
 | .mk k a s n ps l=>.mk (if k = 6 then 7 else k) a s n ps l
def opz:Tz->Tz
 | .mk k _ _ _ _ l=>.mk k 0 [] 0 [] (l.map opT)
/-! Names of both. -/
def SmC(c d:St):Prop:=c.kn=d.kn/\c.en=d.en/\c.ou=d.ou
def SmS:Rs->Rs->Prop
 | .bad a,.bad b=>a=b
 | .ok c,.ok d=>SmC c d
 | _,_=>False
theorem SmS.bnd{r1 r2:Rs}{f1 f2:St->Rs}(h:SmS r1 r2)(hf:∀ c d,SmC c d->SmS (f1 c) (f2 d)):SmS (bndR r1 f1) (bndR r2 f2):=by
 cases r1 <;> cases r2
 ·exact hf _ _ h
 ·exact h.elim
 ·exact h.elim
 ·exact h
end Fl
end Go.Proofs.YtcgibpdjfgjldaaGreatDoor
