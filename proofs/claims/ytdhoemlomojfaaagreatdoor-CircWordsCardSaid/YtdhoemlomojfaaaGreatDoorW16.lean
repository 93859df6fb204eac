/- DERIVED. FlCx, FlShi, FlCd, FlCl. By an AI agent. -/
import Derived.Test.YtdhoemlomojfaaaGreatDoorW01
import Derived.Test.YtdhoemlomojfaaaGreatDoorW10
import Derived.Test.YtdhoemlomojfaaaGreatDoorW15
import Derived.Test.YtdhoemlomojfaaaGreatDoorW03
set_option maxRecDepth 100000
set_option maxHeartbeats 8000000
set_option linter.unusedVariables false
set_option linter.unusedSimpArgs false
namespace Go.Proofs.YtdhoemlomojfaaaGreatDoor.Fl
open Go Go.ChangeShapes Go.WideShapes Go.ChangeAt Go.RowKit Lx Args Pa Sh Go.Proofs.YtdhoemlomojfaaaGreatDoor.Nm
structure Cx(w0:World)(g fb kb:Nat)(fu:Fu)(kn:Kw)(w:World):Prop where
 bel:Below w0.heap.size w0 w
 low:w0.heap.size≤g
 fun_:∃ m,FuM w0 w fb m fu
 kno:∃ m,MpW w kb m kn
 nef:fb≠g
 nek:kb≠g
 fok:okF fu fu
theorem Cx.upd{w0 w w':World}{g fb kb:Nat}{fu:Fu}{kn:Kw}(h:Cx w0 g fb kb fu kn w)(hu:Upd (fun b=>b=g) w w'):Cx w0 g fb kb fu kn w':=by
 obtain ⟨h1,h2,⟨m,h3⟩,⟨m',h4⟩,h5,h6,h7⟩:=h;exact ⟨h1.trans (hu.below (B:=w0.heap.size) h1.size fun b hb=>by omega),h2,⟨m,h3.upd hu h5⟩,⟨m',h4.upd hu h6⟩,h5,h6,h7⟩
theorem Cx.below{w0 w w':World}{g fb kb:Nat}{fu:Fu}{kn:Kw}(h:Cx w0 g fb kb fu kn w)(hb:Below w.heap.size w w'):Cx w0 g fb kb fu kn w':=h.upd (Upd.of_below hb _)
structure Bx where
 vk:Value
 fb:Nat
 vl:Value
 vr:Value
 rd:Int
abbrev bxA(x:Bx)(nd ca:Int):Array Value:=#[x.vk,.map (some x.fb),x.vl,x.vr,.int .i64 x.rd,.int .i64 nd,.int .i64 ca]
def XP(g:Nat)(x:Bx)(ca:Int)(w:World)(r:Rf (Bool×Int))(e:Ending)(w':World):Prop:=
 match r with
 | .ok q=>e = .returned (.bool q.1)∧Blk w' g 97 (bxA x q.2 ca)∧Upd (fun b=>b=g) w w'
 | .bad a er=>e=panF a er∧Upd (fun b=>b=g) w w'
theorem XP.from{g:Nat}{x:Bx}{ca:Int}{w w1 w':World}{r:Rf (Bool×Int)}{e:Ending}(h:XP g x ca w1 r e w')(hu:Upd (fun b=>b=g) w w1):XP g x ca w r e w':=by
 cases r with
 | ok q=>exact ⟨h.1,h.2.1,hu.trans h.2.2⟩
 | bad a er=>exact ⟨h.1,hu.trans h.2⟩
abbrev XM:Int:=20000
abbrev xC(fu:Fu)(c:Nat):Sub:=exC worB XM fu c
def XAt(w0:World)(g:Nat)(fu:Fu)(c:Nat)(z:Tz):Prop:=
 ∀ (x:Bx) (w:World) (kb:Nat) (kn:Kw) (nd ca:Int) (k a:Int) (s:Bs) (n:Nat) (A:Option Addr) (la cA:Nat) (B:Option Addr) (lb cB:Nat),ca+(c:Int) = 61→Cx w0 g x.fb kb fu kn w→TrV w0 z k a s n A la cA B lb cB→okC fu z→Blk w g 97 (bxA x nd ca) →
  Calls Tryz.prog 117 #[.pointer (some ⟨g,0,none⟩),nzA k a s n A la cA B lb cB,.map (some kb)] w (XP g x ca w (xC fu c kn z nd))
def XsP(g:Nat)(x:Bx)(ca:Int)(w:World)(r:Rf (List Bool×Int))(e:Ending)(w':World):Prop:=XP g x ca w (bndF r fun q=>.ok (q.1.any id,q.2)) e w'
theorem any_snoc(bs:List Bool)(b:Bool):(bs ++ [b]).any id=(b || bs.any id):=by
 rw [List.any_append];simp [Bool.or_comm]
theorem exprs_{w0:World}{g:Nat}{fu:Fu}{c:Nat}(l:List Tz)(H:∀ y∈l,XAt w0 g fu c y)(x:Bx)(w:World)(kb:Nat)(kn:Kw)(nd ca:Int)(A:Option Addr)(cA:Nat)(hca:ca+(c:Int) = 61)(hC:Cx w0 g x.fb kb fu kn w)(hP:Pts w0 A cA l)(hok:okCs fu l)(hB:Blk w g 97 (bxA x nd ca)) :
  Calls Tryz.prog 90 #[.pointer (some ⟨g,0,none⟩),.slice A l.length cA,.map (some kb)] w (XsP g x ca w (seqB (xC fu c kn) l nd)):=by
 have hlm:l.length≤9223372036854775807:=Nat.le_trans hP.le hP.cap;have HH:=Hi H;have HC:=Hi hC;have HP:=Hi hP;have HOK:=Hi hok;have HB:=Hi hB;have HCA:=Hi hca;obtain ⟨res,hres⟩:∃ res,bndF (seqB (xC fu c kn) l nd) (fun q=>.ok (q.1.any id,q.2))=res:=⟨_,rfl⟩;unfold XsP;rw [hres];have HRES:=Hi hres;clear H hC hP hok hB hres hca;go_enter Tryz.func90,Tryz.ntmps90;go_wp2_with fail
 go_loopw [7,12] (fun vs vi wr=>∃ (i:Nat) (bs:List Bool) (sc:Bool) (ndi:Int),i≤l.length∧vs = .bool sc∧vi = .int .i64 (i:Int)∧Hid (sc=bs.any id)∧Hid (Blk wr g 97 (bxA x ndi ca))∧Hid (Upd (fun b=>b=g) w wr)∧Hid (bndF (seqB (xC fu c kn) (l.drop i) ndi) (fun q=>.ok ((bs ++ q.1).any id,q.2))=res)) (fun _ vi _=>l.length - (intOf vi).toNat)
 case atStart=>exact ⟨0,[],false,nd,by omega,rfl,rfl,Hi rfl,HB,Hi (Upd.refl _ _),HRES⟩
 case round=>
  obtain ⟨i,bs,sc,ndi,hi,rfl,rfl,HS,HBr,HU,HQ⟩:=hrel;have HCr:=Hi (HC.out.upd HU.out);by_cases hlt:i < l.length
  ·have hil:(i:Int) < (l.length:Int):=by omega
   obtain ⟨y,hy⟩:∃ y,l[i]?=some y:=⟨_,List.getElem?_eq_getElem hlt⟩;obtain ⟨bb,o,k',a',s',n',A',la',cA',B',lb',cB',hA,hTy,hbl,g0',g1,g2,g3,g4,g5⟩:=HP.out.at_ HCr.out.bel hy;subst hA;obtain ⟨wb,hwb,hbb,hXb,hsb⟩:=a_box wr (nB k' a' s' n' A' la' cA' B' lb' cB');have hgb:=HBr.out.lt;have hCc:=HH.out y (List.mem_of_getElem? hy) x wb kb kn ndi ca k' a' s' n' A' la' cA' B' lb' cB' HCA.out (HCr.out.below hbb) hTy (okCs_at HOK.out hy) (HBr.out.below hbb hgb);have hq:=HQ.out;rw [drop_at hy,seqB_cons,bnd_assoc] at hq;obtain ⟨⟨e0,e1,e2,e3,e4,e5⟩,z0,z1,z2,z3,z4,z5⟩:=Blk.c6 hXb;have HCC:=Hi hCc;have HWB:=Hi hwb;have HQ2:=Hi hq;have HUB:=Hi (HU.out.trans (Upd.of_below hbb _));have hbl2:bb < wr.heap.size:=Nat.lt_of_lt_of_le hbl HCr.out.bel.size;clear hCc hwb hbb hXb hq hTy hy hsb;generalize xC fu c kn y ndi=r2 at HCC HQ2;go_wp2_with fail
   rw [HWB.out];refine (show Calls Tryz.prog 117 #[.pointer (some ⟨g,0,none⟩),nzA k' a' s' n' A' la' cA' B' lb' cB',.map (some kb)] wb _ from HCC.out).mono ?_;intro e w4 h4;clear e0 e1 e2 e3 e4 e5 z0 z1 z2 z3 z4 z5;cases r2 with
   | bad a2 er2=>
    obtain ⟨rfl,hu4⟩:=h4;have HEND:=Hi (show XP g x ca w res (panF a2 er2) w4 from by
     rw [←show Rf.bad a2 er2=res from HQ2.out];exact ⟨rfl,HUB.out.trans hu4⟩)
    clear hu4;go_wp2_with fail
    exact ⟨rfl,HEND.out⟩
   | ok q=>
    obtain ⟨b2,nd2⟩:=q;obtain ⟨rfl,hB4,hu4⟩:=h4;have HB4:=Hi hB4;have HU4:=Hi (HUB.out.trans hu4);have HS4:=Hi (show (b2 || sc)=(bs ++ [b2]).any id by rw [any_snoc,HS.out]);have HQ3:=Hi (show bndF (seqB (xC fu c kn) (l.drop (i+1)) nd2) (fun q=>.ok (((bs ++ [b2]) ++ q.1).any id,q.2))=res by
     rw [←HQ2.out];show _=bndF (bndF (seqB (xC fu c kn) (l.drop (i+1)) nd2) fun r=>.ok (b2 :: r.1,r.2)) fun q=>.ok ((bs ++ q.1).any id,q.2)
     rw [bnd_assoc]
     congr 1
     funext r
     show _=Rf.ok ((bs ++ b2 :: r.1).any id,r.2);rw [List.append_assoc];rfl)
    clear hB4 hu4;cases b2 with
    | true=>
     go_wp2_with fail
     go_roundw
     case rel=>exact ⟨i+1,bs ++ [true],true,nd2,by omega,rfl,by go_num,HS4,HB4,HU4,HQ3⟩
     case measure=>simp [intOf];omega
    | false=>
     go_wp2_with fail
     go_roundw
     case rel=>exact ⟨i+1,bs ++ [false],sc,nd2,by omega,rfl,by go_num,HS4,HB4,HU4,HQ3⟩
     case measure=>simp [intOf];omega
  ·obtain rfl:i=l.length:=by omega
   have hq:=HQ.out;rw [List.drop_length,seqB_nil] at hq;have hq':Rf.ok ((bs ++ []).any id,ndi)=res:=hq;rw [List.append_nil,←HS.out] at hq';have HEND:=Hi (show XP g x ca w res (.returned (.bool sc)) wr from by rw [←hq'];exact ⟨rfl,HBr.out,HU.out⟩);clear hq hq';go_wp2_with fail
   go_ret;exact HEND.out
def CutL(w0:World)(l:List Tz)(k:Nat)(w:World)(e:Ending)(w':World):Prop:=
 ∃ (l1 l2:List Tz) (A1:Option Addr) (c1:Nat) (A2:Option Addr) (c2:Nat),l1=l.take k∧l2=l.drop k∧e = .returned (.tuple #[.slice A1 l1.length c1,.slice A2 l2.length c2])∧Pts w0 A1 c1 l1∧Pts w0 A2 c2 l2∧Below w.heap.size w w'
theorem cutL{w0:World}{A:Option Addr}{c:Nat}{l:List Tz}(w:World)(k:Nat)(hP:Pts w0 A c l)(hk:k≤2):Calls Tryz.prog 58 #[.slice A l.length c,.int .i64 (k:Int)] w (CutL w0 l k w):=by
 refine (fcut w A l.length c k hP.le hP.cap hk).mono fun e w' h=>?_
 obtain ⟨A1,c1,A2,c2,rfl,⟨h1,h2⟩,⟨h3,h4⟩,h5,h6,hb⟩:=h;have e1:min k l.length=(l.take k).length:=by rw [List.length_take]
 have e2:l.length - k=(l.drop k).length:=by rw [List.length_drop]
 refine ⟨_,_,A1,c1,A2,c2,rfl,rfl,by rw [e1,e2],hP.take k (by rw [←e1];exact h1) h2 h5,hP.drop k (by rw [←e2];exact h3) h4 h6,hb⟩
theorem shift_{w0:World}{g:Nat}{fu:Fu}{c:Nat}(ps:List Bs)(l:List Tz)(H:∀ y∈l,XAt w0 g fu c y)(x:Bx)(w:World)(kb:Nat)(kn:Kw)(nd ca:Int)(k a:Int)(s:Bs)(n:Nat)(A:Option Addr)(la cA:Nat)(B:Option Addr)(lb cB:Nat)(hca:ca+(c:Int) = 61)(hC:Cx w0 g x.fb kb fu kn w)(hT:TrV w0 (.mk k a s n ps l) k a s n A la cA B lb cB)(hok:okCs fu l)(hB:Blk w g 97 (bxA x nd ca)) :
  Calls Tryz.prog 147 #[.pointer (some ⟨g,0,none⟩),nzA k a s n A la cA B lb cB,.map (some kb)] w (XP g x ca w (shR worB XM fu c kn l nd)):=by
 obtain ⟨-,-,-,-,rfl,rfl,hP,-,-,-,-,-,-⟩:=hT.parts;obtain ⟨wn,hwn,hbn,hXn,hsn⟩:=a_box w (nB k a s n A l.length cA B ps.length cB);obtain ⟨⟨e0,e1,e2,e3,e4,e5⟩,z0,z1,z2,z3,z4,z5⟩:=Blk.c6 hXn;have HH:=Hi H;have HC:=Hi (hC.below hbn);have HP:=Hi hP;have HOK:=Hi hok;have HB:=Hi (hB.below hbn hB.lt);have HCA:=Hi hca;have HW:=Hi hwn;have HU:=Hi (Upd.of_below hbn (fun b=>b=g));have HCU:=Hi (cutL wn 1 hP (by decide));obtain ⟨res,hres⟩:∃ res,shR worB XM fu c kn l nd=res:=⟨_,rfl⟩;rw [hres];have HRES:=Hi hres;clear H hC hT hP hok hB hres hca hwn hbn hXn hsn;go_enter Tryz.func147,Tryz.ntmps147;go_upto_region 1 with fail
 rw [HW.out];go_wp2_with fail
 refine (show Calls Tryz.prog 58 #[.slice A l.length cA,.int .i64 1] wn _ from HCU.out).mono ?_;rintro e w1 ⟨l1,l2,A1,c1,A2,c2,h1,h2,rfl,hP1,hP2,hb1⟩;have HC1:=Hi (HC.out.below hb1);have HB1:=Hi (HB.out.below hb1 HB.out.lt);have HU1:=Hi (HU.out.trans (Upd.of_below hb1 _));have HL1:=Hi h1;have HL2:=Hi h2;have HP1:=Hi hP1;have HCU2:=Hi (cutL w1 1 hP2 (by decide));clear h1 h2 hP1 hP2 hb1 HCU e0 e1 e2 e3 e4 e5 z0 z1 z2 z3 z4 z5;go_wp2_with fail
 refine (show Calls Tryz.prog 58 #[.slice A2 l2.length c2,.int .i64 1] w1 _ from HCU2.out).mono ?_;rintro e w2 ⟨l3,l4,A3,c3,A4,c4,h3,h4,rfl,hP3,hP4,hb2⟩;have HC2:=Hi (HC1.out.below hb2);have HB2:=Hi (HB1.out.below hb2 HB1.out.lt);have HU2:=Hi (HU1.out.trans (Upd.of_below hb2 _));have HP3:=Hi hP3;have hr3:(match strBs (looB kn) l3 with | some e=>Rf.bad e.2.1 (badB kn e) | none=>bndF (seqB (xC fu c kn) l1 nd) fun q=>.ok (q.1.any id,q.2))=res:=by
  rw [←HRES.out,h3,HL2.out,HL1.out];rfl
 have HR3:=Hi hr3;have hl3:l3.length≤9223372036854775807:=Nat.le_trans hP3.le hP3.cap;clear h3 h4 hP3 hP4 hb2 HCU2 hr3 HRES;go_wp2_with fail
 go_loopw [26] (fun vi wr=>∃ i:Nat,i≤l3.length∧vi = .int .i64 (i:Int)∧Hid (Blk wr g 97 (bxA x nd ca))∧Hid (Upd (fun b=>b=g) w wr)∧Hid (Below w2.heap.size w2 wr)∧Hid (strBs (looB kn) (l3.drop i)=strBs (looB kn) l3)) (fun vi _=>l3.length - (intOf vi).toNat)
 case atStart=>exact ⟨0,by omega,rfl,HB2,HU2,Hi (Below.refl _ _),Hi rfl⟩
 case round=>
  obtain ⟨i,hi,rfl,HBr,HUr,HBW,HQ⟩:=hrel;have HCr:=Hi (HC2.out.below HBW.out);by_cases hlt:i < l3.length
  ·have hil:(i:Int) < (l3.length:Int):=by omega
   obtain ⟨y,hy⟩:∃ y,l3[i]?=some y:=⟨_,List.getElem?_eq_getElem hlt⟩;obtain ⟨bb,o,k',a',s',n',A',la',cA',B',lb',cB',hA,hTy,hbl,g0',g1,g2,g3,g4,g5⟩:=HP3.out.at_ HCr.out.bel hy;subst hA;obtain ⟨wb,hwb,hbb,hXb,hsb⟩:=a_box wr (nB k' a' s' n' A' la' cA' B' lb' cB');obtain ⟨mk,hmk⟩:=(HCr.out.below hbb).kno;have hCc:=mustBe (w0:=w0) wb y k' a' s' n' A' la' cA' B' lb' cB' (HCr.out.below hbb).bel hmk hTy;have hq:=HQ.out;rw [drop_at hy,strBs_cons] at hq;obtain ⟨⟨e0,e1,e2,e3,e4,e5⟩,z0,z1,z2,z3,z4,z5⟩:=Blk.c6 hXb;have HCC:=Hi hCc;have HWB:=Hi hwb;have HQ2:=Hi hq;have HBB:=Hi hbb;have hbl2:bb < wr.heap.size:=Nat.lt_of_lt_of_le hbl HCr.out.bel.size;clear hCc hwb hbb hXb hq hTy hy hsb hmk;generalize strB (looB kn) y=r2 at HCC HQ2;go_wp2_with fail
   rw [HWB.out];refine (show Calls Tryz.prog 91 #[nzA k' a' s' n' A' la' cA' B' lb' cB',.map (some kb)] wb _ from HCC.out).mono ?_;intro e w4 h4;clear e0 e1 e2 e3 e4 e5 z0 z1 z2 z3 z4 z5;cases r2 with
   | some r2=>
    obtain ⟨rfl,hb4⟩:=h4;have HQ3:=HQ2.out;have HEND:=Hi (show XP g x ca w res (panF r2.2.1 (badB kn r2)) w4 from by
     rw [←HR3.out,←show some r2=strBs (looB kn) l3 from HQ3];exact ⟨rfl,HUr.out.trans (Upd.of_below (HBB.out.trans (hb4.mono HBB.out.size)) _)⟩)
    clear hb4 HQ3;go_wp2_with fail
    exact ⟨rfl,HEND.out⟩
   | none=>
    obtain ⟨rfl,hb4⟩:=h4;have hb4':=HBB.out.trans (hb4.mono HBB.out.size);have H1:=Hi (HBr.out.below hb4' HBr.out.lt);have H2:=Hi (HUr.out.trans (Upd.of_below hb4' _));have H3:=Hi (HBW.out.trans (hb4'.mono HBW.out.size));have HQ3:=Hi (show strBs (looB kn) (l3.drop (i+1))=strBs (looB kn) l3 from HQ2.out);clear hb4 hb4';go_wp2_with fail
    go_roundw
    case rel=>exact ⟨i+1,by omega,by go_num,H1,H2,H3,HQ3⟩
    case measure=>simp [intOf];omega
  ·obtain rfl:i=l3.length:=by omega
   have hq:=HQ.out;rw [List.drop_length] at hq
   conv at hq=>lhs;unfold strBs
   have hr:=HR3.out;rw [←hq] at hr;have HE:=Hi (exprs_ l1 (fun y hy=>HH.out y (List.mem_of_mem_take (by rw [HL1.out] at hy;exact hy))) x wr kb kn nd ca A1 c1 HCA.out HCr.out HP1.out (by rw [HL1.out];exact okCs_take 1 HOK.out) HBr.out);unfold XsP at HE;rw [show (bndF (seqB (xC fu c kn) l1 nd) fun q=>.ok (q.1.any id,q.2))=res from hr] at HE;clear hq hr;go_wp2_with fail
   refine (show Calls Tryz.prog 90 #[.pointer (some ⟨g,0,none⟩),.slice A1 l1.length c1,.map (some kb)] wr _ from HE.out).mono ?_;intro e w4 h4;have h4':=h4.from HUr.out;clear h4;cases res with
   | bad a2 er2=>
    obtain ⟨rfl,hu4⟩:=h4';have HEND:=Hi (show XP g x ca w (.bad a2 er2) (panF a2 er2) w4 from ⟨rfl,hu4⟩);clear hu4;go_wp2_with fail
    exact ⟨rfl,HEND.out⟩
   | ok q=>
    obtain ⟨b2,nd2⟩:=q;obtain ⟨rfl,hB4,hu4⟩:=h4';have HEND:=Hi (show XP g x ca w (.ok (b2,nd2)) (.returned (.bool b2)) w4 from ⟨rfl,hB4,hu4⟩);clear hB4 hu4;go_wp2_with fail
    go_ret;exact HEND.out
theorem Cx.updX{w0 w w':World}{g fb kb:Nat}{fu:Fu}{kn:Kw}{X:Nat→Prop}(h:Cx w0 g fb kb fu kn w)(hu:Upd X w w')(hX:∀ b,X b→w0.heap.size≤b)(hf:¬ X fb)(hk:¬ X kb):Cx w0 g fb kb fu kn w':=by
 obtain ⟨h1,h2,⟨m,h3⟩,⟨m',h4⟩,h5,h6,h7⟩:=h;exact ⟨h1.trans (hu.below (B:=w0.heap.size) h1.size hX),h2,⟨m,h3.upd hu hf⟩,⟨m',h4.upd hu hk⟩,h5,h6,h7⟩
theorem Cx.other{w0 w:World}{g fb kb kb':Nat}{fu:Fu}{kn kn':Kw}(h:Cx w0 g fb kb fu kn w){m:Nat}(hm:MpW w kb' m kn')(hk:kb'≠g):Cx w0 g fb kb' fu kn' w:=⟨h.bel,h.low,h.fun_,⟨m,hm⟩,h.nef,hk,h.fok⟩
theorem called_{w0:World}{g:Nat}{fu:Fu}{c:Nat}(H:∀ z,XAt w0 g fu c z)(ps:List Bs)(l:List Tz)(x:Bx)(w:World)(kb:Nat)(kn:Kw)(nd ca:Int)(a:Int)(s:Bs)(n:Nat)(A:Option Addr)(la cA:Nat)(B:Option Addr)(lb cB:Nat)(hca:ca+(c:Int) = 61)(hC:Cx w0 g x.fb kb fu kn w)(hT:TrV w0 (.mk 5 a s n ps l) 5 a s n A la cA B lb cB)(hok:okC fu (.mk 5 a s n ps l))(hB:Blk w g 97 (bxA x nd ca)) :
  Calls Tryz.prog 165 #[.pointer (some ⟨g,0,none⟩),nzA 5 a s n A la cA B lb cB,.map (some kb)] w (XP g x ca w (bndF (seqB (xC fu c kn) l nd) fun q=>calB fu (xC fu c) s q)):=by
 obtain ⟨-,-,-,-,rfl,rfl,hP,hs,-,-,-,-,-⟩:=hT.parts;obtain ⟨har,hokl⟩:=okC_parts hok;obtain ⟨wn,hwn,hbn,hXn,hsn⟩:=a_box w (nB 5 a s n A l.length cA B ps.length cB);obtain ⟨⟨e0,e1,e2,e3,e4,e5⟩,z0,z1,z2,z3,z4,z5⟩:=Blk.c6 hXn;have HH:=Hi H;have HC:=Hi (hC.below hbn);have HP:=Hi hP;have HOK:=Hi hokl;have HB:=Hi (hB.below hbn hB.lt);have HCA:=Hi hca;have HW:=Hi hwn;have HU:=Hi (Upd.of_below hbn (fun b=>b=g));have HXN:=Hi hXn;obtain ⟨res,hres⟩:∃ res,(bndF (seqB (xC fu c kn) l nd) fun q=>calB fu (xC fu c) s q)=res:=⟨_,rfl⟩;rw [hres];have HRES:=Hi hres;have hgl:=hXn.lt;have hgw:=hB.lt;obtain ⟨gn,hgn⟩:∃ gn,w.heap.size=gn:=⟨_,rfl⟩;have HGN:=Hi hgn;rw [hgn] at e0 e1 e2 e3 e4 e5 z0 z1 z2 z3 z4 z5 HXN hgl hgw;have HGW:=Hi hgw;have HSN:=Hi hsn;clear H hC hT hP hok hB hres hca hwn hbn hXn hsn hokl hgw;go_enter Tryz.func165,Tryz.ntmps165;go_upto_region 1 with fail
 rw [HW.out];by_cases hsel:s=[115,101,108]
 ·subst hsel;have hr:(bndF (seqB (xC fu c kn) l nd) fun q=>.ok (q.1.any id,q.2))=res:=by
   rw [←HRES.out]
   congr 1
  have HE:=Hi (exprs_ l (fun y _=>HH.out y) x wn kb kn nd ca A cA HCA.out HC.out HP.out HOK.out HB.out);unfold XsP at HE;rw [hr] at HE;clear hr har;go_wp2_with fail
  refine (show Calls Tryz.prog 90 #[.pointer (some ⟨g,0,none⟩),.slice A l.length cA,.map (some kb)] wn _ from HE.out).mono ?_;intro e w4 h4;have h4':=h4.from HU.out;clear h4;cases res with
  | bad a2 er2=>
   obtain ⟨rfl,hu4⟩:=h4';have HEND:=Hi (show XP g x ca w (.bad a2 er2) (panF a2 er2) w4 from ⟨rfl,hu4⟩);clear hu4;go_wp2_with fail
   exact ⟨rfl,HEND.out⟩
  | ok q=>
   obtain ⟨b2,nd2⟩:=q;obtain ⟨rfl,hB4,hu4⟩:=h4';have HEND:=Hi (show XP g x ca w (.ok (b2,nd2)) (.returned (.bool b2)) w4 from ⟨rfl,hB4,hu4⟩);clear hB4 hu4;go_wp2_with fail
   go_ret;exact HEND.out
 have fsel:(s==[115,101,108])=false:=by simpa using hsel
 have har2:=har rfl hsel;obtain ⟨f,hf,hfl⟩:∃ f,fu s=some f∧l.length≤f.1.length:=by
  unfold arB at har2;cases hfs:fu s with
  | none=>rw [hfs] at har2;cases har2
  | some f=>rw [hfs] at har2;exact ⟨f,rfl,of_decide_eq_true har2⟩
 obtain ⟨mf,kd,hkd,hfu⟩:=HC.out.fun_;have hfs:=hfu s;rw [hf] at hfs;obtain ⟨d,hd,hFD⟩:=hfs;have hcal:∀ q:List Bool×Int,calB fu (xC fu c) s q=bndF (seqB (xC fu c (parB f.1 q.1)) (f.2.take 1) q.2) fun r=>.ok (r.1.any id,r.2):=fun q=>by
  unfold calB;rw [if_neg (show ¬ s=sel from hsel),hf]
 have HCAL:=Hi hcal;have hokf:=HC.out.fok s f hf;obtain ⟨hT1,hlp,hlf,hnf⟩:=hFD;obtain ⟨cp1,cp2⟩:=tIz_cap hT1;obtain ⟨dk,da,ds,dn,dA,dla,dcA,dB,dlb,dcB⟩:=d;have hT1':TIc True w0 (.mk dk da ds dn f.1 f.2) (nzC dk da ds dn dA dla dcA dB dlb dcB):=hT1;obtain ⟨-,-,-,-,rfl,rfl,hl2,hp2,hLB,css,hLA,hSA⟩:=tIz_parts hT1';have HPF:=Hi (show Pts w0 dA dcA f.2 from ⟨⟨css,hLA,hSA⟩,cp1,cp2,hlf,hnf⟩);have HLB:=Hi hLB;have HLP:=Hi hlp;have HOKF:=Hi hokf;have HFL:=Hi hfl;have hdr0:Below wn.heap.size wn wn.drew:=Below.drew (Below.refl _ _);obtain ⟨wd,hwd⟩:∃ v,wn.drew=v:=⟨_,rfl⟩;rw [hwd] at hdr0;have HLK:=Hi (show ∀ v,Below wd.heap.size wd v→(Instr.lookup 80 (.map (some x.fb)) (.string ⟨s.toArray⟩) false).run Tryz.prog v = .ok (.agg (nB dk da ds dn dA f.2.length dcA dB f.1.length dcB)) v from fun v hv=>by
  have h:=mpn_look1 (hkd.upd (Upd.of_below (hdr0.trans (hv.mono hdr0.size)) fun _=>False) id) hs;rw [hd] at h;exact h)
 have hsd:wd.heap.size=gn+1:=by rw [←hwd];show wn.heap.size=_;rw [HSN.out,HGN.out]
 have HBD:=Hi (HB.out.below hdr0 HB.out.lt);have HXD:=Hi (HXN.out.below hdr0 HXN.out.lt);obtain ⟨w2,hw2,hb2d,hX2,hs2d⟩:=a_box wd (nB dk da ds dn dA f.2.length dcA dB f.1.length dcB);rw [hsd] at hX2;have hzA:=Blk.new wd 62 #[.int .i64 0,.string ⟨#[]⟩,.int .u32 0,.int .i64 0,.slice none 0 0,.slice none 0 0];rw [hsd] at hzA;have hbA:Below wd.heap.size wd (wd.alloc (.cells #[.int .i64 0,.string ⟨#[]⟩,.int .u32 0,.int .i64 0,.slice none 0 0,.slice none 0 0] 62)):=(Below.refl _ _).alloc (Nat.le_refl _) _;have HZA:=Hi hzA;have HBA:=Hi hbA;have HB2D:=Hi hb2d;have hb2:Below wn.heap.size wn w2:=hdr0.trans (hb2d.mono hdr0.size);have hs2:w2.heap.size=wn.heap.size+1:=by rw [hs2d,hsd,HSN.out,HGN.out]
 obtain ⟨w3,hw3⟩:∃ w3,w2.alloc (.map #[] 0)=w3:=⟨_,rfl⟩;have hb3:Below w2.heap.size w2 w3:=by rw [←hw3];exact (Below.refl _ _).alloc (Nat.le_refl _) _
 have hs3:w3.heap.size=w2.heap.size+1:=by rw [←hw3];simp
 have hm3:MpW w3 w2.heap.size 0 (fun _=>none):=by rw [←hw3];exact MpG.made codW w2
 obtain ⟨pb,hpb⟩:∃ pb,w2.heap.size=pb:=⟨_,rfl⟩;have hmk:(Instr.makeMap 95 none).run Tryz.prog w2 = .ok (.map (some pb)) w3:=by rw [←hw3,←hpb];exact run_makeMap _ _
 rw [hpb] at hm3;have hb23:=hb2.trans (hb3.mono hb2.size);have HX3:=Hi (hX2.below hb3 hX2.lt);have HXN3:=Hi (HXN.out.below hb23 HXN.out.lt);have HC3:=Hi (HC.out.below hb23);have HB3:=Hi (HB.out.below hb23 HB.out.lt);have HU3:=Hi (HU.out.trans (Upd.of_below hb23 _));have HM3:=Hi hm3;have HW2:=Hi hw2;have HW3:=Hi hw3;have hpg:gn+2=pb:=by rw [←hpb,hs2,HSN.out,HGN.out]
 have HPG:=Hi hpg;have hs2':w2.heap.size=gn+2:=by rw [hpb,←hpg]
 have HNG:=Hi (show ¬ (gn+1=g∨gn+1=pb) from by have:=HGW.out;omega);have hlm:l.length≤9223372036854775807:=Nat.le_trans HP.out.le HP.out.cap;have hkf:¬ x.fb=pb:=by have:=hkd.lt;omega
 have hkk:¬ kb=pb:=by
  obtain ⟨mm,hmm⟩:=HC.out.kno;have:=hmm.lt;omega
 have HKF:=Hi (show ¬ (x.fb=g∨x.fb=pb) from fun h=>h.elim HC.out.nef hkf);have HKK:=Hi (show ¬ (kb=g∨kb=pb) from fun h=>h.elim HC.out.nek hkk);have hgw2:g < wn.heap.size:=HB.out.lt;have HWD:=Hi hwd;clear har har2 hf hfl hkd hfu hd hcal hokf hT1 hlp hlf hnf cp1 cp2 hT1' hl2 hp2 hLB hLA hSA hw2 hb2 hb2d hX2 hw3 hb3 hs3 hm3 hb23 hsel hdr0 hzA hbA hwd hs2d;go_upto_region 3 with fail
 have hwd:=HWD.out;clear e0 e1 e2 e3 e4 e5 z0 z1 z2 z3 z4 z5 HWD;have hZ0:Below wd.heap.size wd wd:=Below.refl _ _;refine HT.wp_region (Z:=fun w'=>Below wd.heap.size wd w') (S:=fun _=>True) (st:=[]) (by kernel_rfl) ?_;rw [hwd];clear hwd;refine HT.tm 0 rfl hZ0 HT.tr ?_;refine HT.tm 1 rfl hZ0 HT.tr ?_;refine HT.tm 2 rfl hZ0 HT.tr ?_;refine HT.tk 3 rfl (by intro v hSw;have hA:=HBD.out.below hSw HBD.out.lt;obtain ⟨c0,c1,c2,c3,c4,c5,c6⟩:=Blk.c7 hA;have hga:=hA.lt;clear hSw hA;go_simp;try with_reducible rfl) hZ0 HT.tr ?_;refine HT.tk 4 rfl (by intro v hSw;have hA:=HXD.out.below hSw HXD.out.lt;have E_:=Blk.c6 hA;have hga:=hA.lt;clear hSw hA;go_simp;try with_reducible rfl) hZ0 HT.tr ?_;refine HT.tk 5 rfl (by intro v hSw;have hA:=HXD.out.below hSw HXD.out.lt;have E_:=Blk.c6 hA;have hga:=hA.lt;clear hSw hA;go_simp;try with_reducible rfl) hZ0 HT.tr ?_;refine HT.tk 6 rfl (by intro v hSw;have hl:=HLK.out v hSw;clear hSw;go_simp;try with_reducible rfl) hZ0 HT.tr ?_;refine HT.one (i:=7) (by kernel_rfl) rfl (fun K hK=>?_);go_simp;(try dsimp only);refine hK.out _ _ HBA.out trivial ?_;clear hK K;(try simp only [HT.pS]);obtain ⟨⟨e0,e1,e2,e3,e4,e5⟩,z0,z1,z2,z3,z4,z5⟩:=Blk.c6 HZA.out;have hgz:=HZA.out.lt;refine HT.one (i:=8) (by kernel_rfl) rfl (fun K hK=>?_);go_simp;rw [HW2.out];(try dsimp only);refine hK.out _ _ HB2D.out trivial ?_;clear hK K;(try simp only [HT.pS]);refine HT.done (by kernel_rfl) ?_;clear e0 e1 e2 e3 e4 e5 z0 z1 z2 z3 z4 z5 hgz hZ0 HLK;obtain ⟨⟨e0,e1,e2,e3,e4,e5⟩,z0,z1,z2,z3,z4,z5⟩:=Blk.c6 HXN3.out;have hgl3:=HXN3.out.lt;go_wp2_with fail
 clear e0 e1 e2 e3 e4 e5 z0 z1 z2 z3 z4 z5 hgl3
 go_loopw [32] (fun vi wr=>∃ (i:Nat) (bs:List Bool) (ndi:Int),i≤l.length∧vi = .int .i64 (i:Int)∧Hid (bs.length=i)∧Hid (MpW wr pb i (parB (f.1.take i) bs))∧Hid (Blk wr g 97 (bxA x ndi ca))∧Hid (Upd (fun b=>b=g∨b=pb) w3 wr)∧Hid (bndF (seqB (xC fu c kn) (l.drop i) ndi) (fun q=>calB fu (xC fu c) s (bs ++ q.1,q.2))=res)) (fun vi _=>l.length - (intOf vi).toNat)
 case atStart=>exact ⟨0,[],nd,by omega,rfl,Hi rfl,HM3,HB3,Hi (Upd.refl _ _),HRES⟩
 case round=>
  obtain ⟨i,bs,ndi,hi,rfl,HBL,HMP,HBr,HUr,HQ⟩:=hrel;have HCr:=Hi (HC3.out.updX HUr.out (fun b hb=>by have:=HC3.out.low;have:=HC.out.bel.size;have:=HSN.out;have:=HGN.out;have:=HPG.out;omega) HKF.out HKK.out);have HXr:=Hi (HX3.out.upd HUr.out HNG.out);by_cases hlt:i < l.length
  ·have hil:(i:Int) < (l.length:Int):=by omega
   obtain ⟨y,hy⟩:∃ y,l[i]?=some y:=⟨_,List.getElem?_eq_getElem hlt⟩;obtain ⟨bb,o,k',a',s',n',A',la',cA',B',lb',cB',hA,hTy,hbl,g0',g1,g2,g3,g4,g5⟩:=HP.out.at_ HCr.out.bel hy;subst hA;obtain ⟨wb,hwb,hbb,hXb,hsb⟩:=a_box wr (nB k' a' s' n' A' la' cA' B' lb' cB');have hif:i < f.1.length:=Nat.lt_of_lt_of_le hlt HFL.out;obtain ⟨p,hp⟩:∃ p,f.1[i]?=some p:=⟨_,List.getElem?_eq_getElem hif⟩;have f1:(f.1.map strV)[i]?=some (.string ⟨p.toArray⟩):=by rw [List.getElem?_map,hp];rfl
   obtain ⟨b9,o9,hB9,hb9,hc9⟩:=HLB.out.at_ f1;subst hB9;have hdr:Below wb.heap.size wb wb.drew:=Below.drew (Below.refl _ _);obtain ⟨wd,hwd⟩:∃ v,wb.drew=v:=⟨_,rfl⟩;rw [hwd] at hdr;have hbd:=hbb.trans (hdr.mono hbb.size);have hCd:=HCr.out.below hbd;have hgr:g < wr.heap.size:=HBr.out.lt;have HFd:=Hi (HXr.out.below hbd HXr.out.lt);have HNF:=HNG;have HPd:=Hi (hXb.below hdr hXb.lt);have HNP:=Hi (show ¬ (wr.heap.size=g∨wr.heap.size=pb) from by have:=HMP.out.lt;omega);have HNM:=Hi (show wd.cell? ⟨b9,o9+i,none⟩=some (.string ⟨p.toArray⟩) from (hCd.bel.cell hb9).trans (hc9 _ _ f1));have HNL:=Hi (show b9 < wd.heap.size from Nat.lt_of_lt_of_le hb9 hCd.bel.size);have HNN:=Hi (show ¬ (b9=g∨b9=pb) from by have:=hCd.low;have:=HC.out.bel.size;have:=HSN.out;have:=HGN.out;have:=HPG.out;omega);have hCc:=HH.out y x wd kb kn ndi ca k' a' s' n' A' la' cA' B' lb' cB' HCA.out hCd hTy (okCs_at HOK.out hy) (HBr.out.below hbd hgr);have hq:=HQ.out;rw [drop_at hy,seqB_cons,bnd_assoc] at hq;obtain ⟨⟨e0,e1,e2,e3,e4,e5⟩,z0,z1,z2,z3,z4,z5⟩:=Blk.c6 hXb;have HCC:=Hi hCc;have HWB:=Hi hwb;have HQ2:=Hi hq;have HMd:=Hi (HMP.out.upd (Upd.of_below hbd fun _=>False) id);have HPL:=Hi (HLP.out p (List.mem_of_getElem? hp));have HPI:=Hi hp;have hbl2:bb < wr.heap.size:=Nat.lt_of_lt_of_le hbl HCr.out.bel.size;have hifi:(i:Int) < (f.1.length:Int):=by omega
   have HUd:=Hi (HUr.out.trans (Upd.of_below hbd _));have HNPG:=Hi (show ¬ pb=g from by have:=HGW.out;have:=HPG.out;omega);have HWD:=Hi hwd;clear hCc hwb hbb hXb hq hTy hy hsb hp f1 hb9 hc9 hdr hbd hCd hwd;generalize xC fu c kn y ndi=r2 at HCC HQ2;go_upto_region 8 with fail
   rw [HWB.out];have hwd:=HWD.out;clear e0 e1 e2 e3 e4 e5 z0 z1 z2 z3 z4 z5 HWD;have hZ0:Upd (fun b=>b=g∨b=pb) wd wd:=Upd.refl _ _;refine HT.wp_region (Z:=fun w'=>Upd (fun b=>b=g∨b=pb) wd w') (S:=fun _=>True) (st:=[]) (by kernel_rfl) ?_;rw [hwd];clear hwd;refine HT.tm 0 rfl hZ0 HT.tr ?_;refine HT.tk 1 rfl (by intro v hSw;have hA:=HFd.out.upd hSw HNF.out;have E_:=Blk.c6 hA;have hga:=hA.lt;clear hSw hA;go_simp;try with_reducible rfl) hZ0 HT.tr ?_;refine HT.tk 2 rfl (by intro v hSw;have hA:=HFd.out.upd hSw HNF.out;have E_:=Blk.c6 hA;have hga:=hA.lt;clear hSw hA;go_simp;try with_reducible rfl) hZ0 HT.tr ?_;refine HT.tm 3 rfl hZ0 HT.tr ?_;refine HT.tm 4 rfl hZ0 HT.tr ?_;refine HT.tk 5 rfl (by intro v hSw;have e1:=(hSw.cell HNL.out HNN.out).trans HNM.out;have hga:=Nat.lt_of_lt_of_le HNL.out hSw.size;clear hSw;go_simp;try with_reducible rfl) hZ0 HT.tr ?_;refine HT.tm 6 rfl hZ0 HT.tr ?_;refine HT.tk 7 rfl (by intro v hSw;have hA:=HPd.out.upd hSw HNP.out;have E_:=Blk.c6 hA;have hga:=hA.lt;clear hSw hA;go_simp;try with_reducible rfl) hZ0 HT.tr ?_;refine HT.tm 8 rfl hZ0 HT.tr ?_;refine HT.one (i:=9) (by kernel_rfl) rfl (fun K hK=>?_);go_simp;refine (show Calls Tryz.prog 117 #[.pointer (some ⟨g,0,none⟩),nzA k' a' s' n' A' la' cA' B' lb' cB',.map (some kb)] wd _ from HCC.out).mono ?_;intro e w4 h4;cases r2 with
   | bad a2 er2=>
    obtain ⟨rfl,hu4⟩:=h4;have HEND:=Hi (show XP g x ca w res (panF a2 er2) w4 from by
     rw [←show Rf.bad a2 er2=res from HQ2.out];exact ⟨rfl,upd_then (upd_then HU3.out HUd.out fun b hb hlt=>by have:=HPG.out;have:=HGN.out;omega) hu4 fun b hb _=>hb⟩)
    exact ⟨rfl,HEND.out⟩
   | ok q=>
    obtain ⟨b2,nd2⟩:=q;obtain ⟨rfl,hB4,hu4⟩:=h4;have hz4:Upd (fun b=>b=g∨b=pb) wd w4:=hu4.mono fun b hb=>.inl hb
    obtain ⟨w6,hrun,hM6,ht6⟩:=mpw_put (HMd.out.upd hu4 HNPG.out) HPL.out (Nat.lt_of_lt_of_le hlt (Nat.le_trans HP.out.le HP.out.cap)) ⟨b2,none⟩;have hz6:Upd (fun b=>b=g∨b=pb) wd w6:=hz4.trans (turned_upd ht6 (.inr rfl));have hB6:Blk w6 g 97 (bxA x nd2 ca):=hB4.upd (turned_upd (X:=fun b=>b=pb) ht6 rfl) (fun h=>HNPG.out h.symm);have hrun':(Instr.mapUpdate 95 (.map (some pb)) (.string ⟨p.toArray⟩) (.agg #[.bool b2,.bool false,.int .u32 0])).run Tryz.prog w4 = .ok () w6:=hrun;(try dsimp only);refine hK.out _ _ hz4 trivial ?_;clear hK K;(try simp only [HT.pS]);refine HT.tm 10 rfl hz4 HT.tr ?_;refine HT.one (i:=11) (by kernel_rfl) rfl (fun K hK=>?_);go_simp;(try dsimp only);refine hK.out _ _ hz6 trivial ?_;clear hK K;(try simp only [HT.pS]);refine HT.done (by kernel_rfl) ?_;have H1:=Hi hB6;have H2:=Hi (HUd.out.trans hz6);have H3:=Hi (show (bs ++ [b2]).length=i+1 by rw [List.length_append,HBL.out];rfl);have hti:(f.1.take i).length=bs.length:=by rw [List.length_take,HBL.out];omega
    have H4:=Hi (show MpW w6 pb (i+1) (parB (f.1.take (i+1)) (bs ++ [b2])) by
     rw [show f.1.take (i+1)=f.1.take i ++ [p] from by rw [List.take_add_one,HPI.out];rfl,par_snoc _ _ _ _ hti];exact hM6)
    have H5:=Hi (show bndF (seqB (xC fu c kn) (l.drop (i+1)) nd2) (fun q=>calB fu (xC fu c) s ((bs ++ [b2]) ++ q.1,q.2))=res by
     rw [←HQ2.out];show _=bndF (bndF (seqB (xC fu c kn) (l.drop (i+1)) nd2) fun r=>.ok (b2 :: r.1,r.2)) fun q=>calB fu (xC fu c) s (bs ++ q.1,q.2)
     rw [bnd_assoc]
     congr 1
     funext r
     show _=calB fu (xC fu c) s (bs ++ b2 :: r.1,r.2);rw [List.append_assoc];rfl)
    clear hZ0 hz4 hz6 hB4 hu4 hB6 hM6 ht6 hrun hrun' hti;go_wp2_with fail
    go_roundw
    case rel=>exact ⟨i+1,bs ++ [b2],nd2,by omega,by go_num,H3,H4,H1,H2,H5⟩
    case measure=>simp [intOf];omega
  ·obtain rfl:i=l.length:=by omega
   have hq:=HQ.out;rw [List.drop_length,seqB_nil] at hq;have hq':calB fu (xC fu c) s (bs ++ [],ndi)=res:=hq;rw [List.append_nil,HCAL.out] at hq';have hpar:parB f.1 bs=parB (f.1.take l.length) bs:=by rw [par_take f.1 bs,HBL.out]
   have hM:=HMP.out;rw [←hpar] at hM;have HCu:=Hi (cutL (w0:=w0) wr 1 HPF.out (by decide));have HCo:=Hi (HCr.out.other hM (by have:=HGW.out;have:=HPG.out;omega));have HQ2:=Hi hq';obtain ⟨⟨e0,e1,e2,e3,e4,e5⟩,z0,z1,z2,z3,z4,z5⟩:=Blk.c6 HXr.out;have hxl:=HXr.out.lt;clear hq hq' hpar hM;go_wp2_with fail
   refine (show Calls Tryz.prog 58 #[.slice dA f.2.length dcA,.int .i64 1] wr _ from HCu.out).mono ?_;rintro e w5 ⟨l1,l2,A1,c1',A2,c2,h1,h2,rfl,hP1,hP2,hb5⟩;have HE:=Hi (exprs_ l1 (fun y _=>HH.out y) x w5 pb (parB f.1 bs) ndi ca A1 c1' HCA.out (HCo.out.below hb5) hP1 (by rw [h1];exact HOKF.out) (HBr.out.below hb5 HBr.out.lt));unfold XsP at HE;rw [h1] at HE;rw [show (bndF (seqB (xC fu c (parB f.1 bs)) (f.2.take 1) ndi) fun q=>.ok (q.1.any id,q.2))=res from HQ2.out,←h1] at HE;have HU5:=Hi (show Upd (fun b=>b=g) w w5 from upd_then (upd_then HU3.out HUr.out fun b hb hlt=>by have:=HPG.out;have:=HGN.out;omega) (Upd.of_below hb5 (fun b=>b=g)) fun b hb _=>hb);clear h1 h2 hP1 hP2 hb5 e0 e1 e2 e3 e4 e5 z0 z1 z2 z3 z4 z5;go_wp2_with fail
   refine (show Calls Tryz.prog 90 #[.pointer (some ⟨g,0,none⟩),.slice A1 l1.length c1',.map (some pb)] w5 _ from HE.out).mono ?_;intro e w6 h6;have h6':=h6.from HU5.out;clear h6;cases res with
   | bad a2 er2=>
    obtain ⟨rfl,hu6⟩:=h6';have HEND:=Hi (show XP g x ca w (.bad a2 er2) (panF a2 er2) w6 from ⟨rfl,hu6⟩);clear hu6;go_wp2_with fail
    exact ⟨rfl,HEND.out⟩
   | ok q=>
    obtain ⟨b2,nd2⟩:=q;obtain ⟨rfl,hB6,hu6⟩:=h6';have HEND:=Hi (show XP g x ca w (.ok (b2,nd2)) (.returned (.bool b2)) w6 from ⟨rfl,hB6,hu6⟩);clear hB6 hu6;go_wp2_with fail
    go_ret;exact HEND.out
theorem call_{w0:World}{g:Nat}{fu:Fu}{c:Nat}(H:∀ c',c=c'+1→∀ z,XAt w0 g fu c' z)(ps:List Bs)(l:List Tz)(x:Bx)(w:World)(kb:Nat)(kn:Kw)(nd ca:Int)(a:Int)(s:Bs)(n:Nat)(A:Option Addr)(la cA:Nat)(B:Option Addr)(lb cB:Nat)(hc:c≤61)(hca:ca+(c:Int) = 61)(hC:Cx w0 g x.fb kb fu kn w)(hT:TrV w0 (.mk 5 a s n ps l) 5 a s n A la cA B lb cB)(hok:okC fu (.mk 5 a s n ps l))(hB:Blk w g 97 (bxA x nd ca)) :
  Calls Tryz.prog 146 #[.pointer (some ⟨g,0,none⟩),nzA 5 a s n A la cA B lb cB,.map (some kb)] w (XP g x ca w (calR worB XM fu c kn a s l nd)):=by
 obtain ⟨wn,hwn,hbn,hXn,hsn⟩:=a_box w (nB 5 a s n A la cA B lb cB);obtain ⟨⟨e0,e1,e2,e3,e4,e5⟩,z0,z1,z2,z3,z4,z5⟩:=Blk.c6 hXn;have HC:=Hi (hC.below hbn);have hBn:=hB.below hbn hB.lt;have HB:=Hi hBn;obtain ⟨c0,c1,c2,c3,c4,c5,c6⟩:=Blk.c7 hBn;have f6:=hBn.frozen 6;have hgl:=hBn.lt;have HW:=Hi hwn;have HU:=Hi (Upd.of_below hbn (fun b=>b=g));have HXN:=Hi hXn;have hne:w.heap.size≠g:=by have:=hB.lt;omega
 have HNE:=Hi hne;have HT:=Hi hT;have HOK:=Hi hok;have HH:=Hi H;clear hC hT hok hB hwn hbn hXn hsn hBn hne H;have bad:∀ w':World,Upd (fun b=>b=g) w w'→XP g x ca w (.bad a 150) (panF a 150) w':=fun w' h=>⟨rfl,h⟩
 have HBAD:=Hi bad;clear bad;cases c with
 | zero=>
  have hca':ca = 61:=by omega
  subst hca';show Calls _ _ _ _ (XP g x 61 w (.bad a 150));go_enter Tryz.func146,Tryz.ntmps146;go_upto_region 1 with fail
  rw [HW.out];go_wp2_with fail
  exact ⟨rfl,HBAD.out _ HU.out⟩
 | succ c=>
  have hca1:ca≤60:=by omega
  have hca0:0≤ca:=by omega
  have h60:¬ (60:Int) < ca:=by omega
  by_cases hnd:XM < nd
  ·have hr:calR worB XM fu (c+1) kn a s l nd = .bad a 150:=by
    unfold calR;show (if XM < nd then _ else _)=_;rw [if_pos hnd]
   rw [hr];have hnd':(20000:Int) < nd:=hnd;clear hr hnd;go_enter Tryz.func146,Tryz.ntmps146;go_upto_region 1 with fail
   rw [HW.out];go_wp2_with fail
   exact ⟨rfl,HBAD.out _ HU.out⟩
  ·have hr:calR worB XM fu (c+1) kn a s l nd=bndF (seqB (xC fu c kn) l nd) fun q=>calB fu (xC fu c) s q:=by
    unfold calR;show (if XM < nd then _ else _)=_;rw [if_neg hnd]
   rw [hr];have hnd':¬ (20000:Int) < nd:=hnd;obtain ⟨w2,hw2⟩:∃ w2,wn.setCell ⟨g,6,none⟩ (.int .i64 (ca+1))=w2:=⟨_,rfl⟩;obtain ⟨cb,hcb⟩:∃ cb,ca+1=cb:=⟨_,rfl⟩;have hu2:Upd (fun b=>b=g) wn w2:=by rw [←hw2];exact (Upd.refl (fun b=>b=g) wn).setCell (p:=⟨g,6,none⟩) (fun _=>rfl) _
   have hB2:Blk w2 g 97 (bxA x nd cb):=by rw [←hw2,←hcb];exact HB.out.set 6 _
   have HE:=Hi (called_ (HH.out c rfl) ps l x w2 kb kn nd cb a s n A la cA B lb cB (by omega) (HC.out.upd hu2) HT.out HOK.out hB2);have HU2:=Hi (HU.out.trans hu2);have HW2:=Hi hw2;have HCB:=Hi hcb;have HX2:=HXN.out.upd hu2 HNE.out;obtain ⟨res,hres⟩:∃ res,(bndF (seqB (xC fu c kn) l nd) fun q=>calB fu (xC fu c) s q)=res:=⟨_,rfl⟩;rw [hres] at HE ⊢;obtain ⟨⟨k0,k1,k2,k3,k4,k5⟩,y0,y1,y2,y3,y4,y5⟩:=Blk.c6 HX2;clear hr hnd hw2 hcb hu2 hB2 hres HX2 hca;go_enter Tryz.func146,Tryz.ntmps146;go_upto_region 1 with fail
   rw [HW.out];go_upto_region 4 with fail
   rw [HW2.out];go_wp2_with fail
   refine (show Calls Tryz.prog 165 #[.pointer (some ⟨g,0,none⟩),nzA 5 a s n A la cA B lb cB,.map (some kb)] w2 _ from HE.out).mono ?_;intro e w4 h4;have h4':=h4.from HU2.out;clear h4 e0 e1 e2 e3 e4 e5 z0 z1 z2 z3 z4 z5 k0 k1 k2 k3 k4 k5 y0 y1 y2 y3 y4 y5 c0 c1 c2 c3 c4 c5 c6 f6;cases res with
   | bad a2 er2=>
    obtain ⟨rfl,hu4⟩:=h4';have HEND:=Hi (show XP g x ca w (.bad a2 er2) (panF a2 er2) w4 from ⟨rfl,hu4⟩);clear hu4;go_wp2_with fail
    exact ⟨rfl,HEND.out⟩
   | ok q=>
    obtain ⟨b2,nd2⟩:=q;obtain ⟨rfl,hB4,hu4⟩:=h4';obtain ⟨c0,c1,c2,c3,c4,c5,c6⟩:=Blk.c7 hB4;have f6:=hB4.frozen 6;have hg4:=hB4.lt;have hcb1:1≤cb:=by have:=HCB.out;omega
    have hcb2:cb≤61:=by have:=HCB.out;omega
    have HEND:=Hi (show XP g x ca w (.ok (b2,nd2)) (.returned (.bool b2)) (w4.setCell ⟨g,6,none⟩ (.int .i64 (cb - 1))) from ⟨rfl,by
     have h:=hB4.set 6 (.int .i64 (cb - 1));rw [show cb - 1=ca from by have:=HCB.out;omega] at h ⊢;exact h,hu4.setCell (p:=⟨g,6,none⟩) (fun _=>rfl) _⟩)
    clear hB4 hu4;go_wp2_with fail
    go_ret;exact HEND.out
end Go.Proofs.YtdhoemlomojfaaaGreatDoor.Fl
