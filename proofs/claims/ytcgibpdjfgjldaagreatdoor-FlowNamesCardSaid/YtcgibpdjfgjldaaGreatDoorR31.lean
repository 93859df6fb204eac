/- DERIVED. FlLp, FlStm, FlLn, FlNz. By an AI agent. -/
import Derived.Test.YtcgibpdjfgjldaaGreatDoorR30
set_option maxRecDepth 100000
set_option maxHeartbeats 16000000
set_option linter.unusedVariables false
set_option linter.unusedSimpArgs false
namespace Go.Proofs.YtcgibpdjfgjldaaGreatDoor
namespace Fl
open Go Go.ChangeShapes Go.WideShapes Go.ChangeAt Go.RowKit Lx Args Pa Sh Go.Proofs.YtcgibpdjfgjldaaGreatDoor.Nm
def lpR(fu:Fu)(a:Int)(s:Bs)(l:List Tz)(c:Sf):Rf Sf:=
 aP (n0B aX c.kn l) fun i=>aP (n1B aX c.kn l) fun j=>roB 2000 a s (fun d=>xTs fu 2 l d) (j.toNat - i.toNat) i c
def bdS(kn:Kw)(l:List Tz)(F:BitVec 32->BitVec 32->Rf Sf)(res:Rf Sf):Nat->BitVec 32->BitVec 32->Prop
 | 0,x0,x1=>x0 = 0/\x1 = 0/\(aP (n0B aX kn l) fun i=>aP (n1B aX kn l) fun j=>F i j)=res
 | 1,x0,x1=>x1 = 0/\(aP (n1B aX kn l) fun j=>F x0 j)=res
 | _,x0,x1=>F x0 x1=res
theorem bdS_end{kn:Kw}{l:List Tz}{F:BitVec 32->BitVec 32->Rf Sf}{res:Rf Sf}{t:Nat}{x0 x1:BitVec 32}(h:bdS kn l F res t x0 x1)(ht:t=(l.take 2).length):F x0 x1=res:=by
 match l,ht with
 | [],ht=>
  have:t = 0:=ht;subst this;obtain ⟨rfl,rfl,h⟩:=h;exact h
 | [x],ht=>
  have:t = 1:=ht;subst this;obtain ⟨rfl,h⟩:=h;exact h
 | x :: y :: l,ht=>
  have:t = 2:=by rw [ht];simp
  subst this;exact h
theorem q6X{kn:Kw}{z:Tz}{e:Int×Int×Bs}(h:strB (bL kn) z=some e):nuB aX kn z = .bad e.2.1 (badB kn e):=by unfold nuB;rw [h]
theorem q6Y{kn:Kw}{z:Tz}(h:strB (bL kn) z=none):nuB aX kn z = .ok (aX (bL kn) z):=by unfold nuB;rw [h]
theorem n0_at{kn:Kw}{l:List Tz}{y:Tz}(h:l[0]?=some y):n0B aX kn l=nuB aX kn y:=by
 match l,h with
 | x :: l,h=>
  have:x=y:=Va;subst this;rfl
theorem n1_at{kn:Kw}{l:List Tz}{y:Tz}(h:l[1]?=some y):n1B aX kn l=nuB aX kn y:=by
 match l,h with
 | z :: x :: l,h=>
  have:x=y:=Va;subst this;rfl
theorem bdS_bad{kn:Kw}{l:List Tz}{F:BitVec 32->BitVec 32->Rf Sf}{res:Rf Sf}{t:Nat}{x0 x1:BitVec 32}{y:Tz}{e:Int×Int×Bs}(h:bdS kn l F res t x0 x1)(ht:t < 2)(hy:l[t]?=some y)(he:strB (bL kn) y=some e):res = .bad e.2.1 (badB kn e):=by
 match t,ht with
 | 0,_=>
  obtain ⟨rfl,rfl,h⟩:=h;rw [<-h,n0_at hy,q6X he];rfl
 | 1,_=>
  obtain ⟨rfl,h⟩:=h;rw [<-h,n1_at hy,q6X he];rfl
theorem bdS_0{kn:Kw}{l:List Tz}{F:BitVec 32->BitVec 32->Rf Sf}{res:Rf Sf}{x0 x1:BitVec 32}{y:Tz}(h:bdS kn l F res 0 x0 x1)(hy:l[0]?=some y)(he:strB (bL kn) y=none):bdS kn l F res 1 (aX (bL kn) y) x1:=by
 obtain ⟨rfl,rfl,h⟩:=h;rw [n0_at hy,q6Y he] at h;exact ⟨rfl,h⟩
theorem bdS_1{kn:Kw}{l:List Tz}{F:BitVec 32->BitVec 32->Rf Sf}{res:Rf Sf}{x0 x1:BitVec 32}{y:Tz}(h:bdS kn l F res 1 x0 x1)(hy:l[1]?=some y)(he:strB (bL kn) y=none):bdS kn l F res 2 x0 (aX (bL kn) y):=by
 obtain ⟨rfl,h⟩:=h;rw [n1_at hy,q6Y he] at h;exact h
theorem q6Z{w:World}{g:Nat}{t:TypeId}{a b:Value}(H:Aa w g t #[a,b]):w.cell? ⟨g,0,none⟩=some a/\w.cell? ⟨g,1,none⟩=some b/\w.frozen? ⟨g,0,none⟩=false/\w.frozen? ⟨g,1,none⟩=false:=⟨H.cell 0,H.cell 1,H.frozen 0,H.frozen 1⟩
theorem q1z:∀ (i:Nat) (l:List Tz),au (l.drop i)<=au l
 | 0,l=>Nat.le_refl _
 | i+1,[]=>V3
 | i+1,x :: l=>by
  rw [List.drop_succ_cons];have:=q1z i l;exact V1Y
theorem loop_{w0:World}{fu:Fu}(ps:List Bs)(l:List Tz)(H:∀ y∈l,StAt w0 fu y)(w:World)(G:Gx)(vl:Value)(k0:Kw)(c:Sf)(fm:Kw)(m:Nat)(k a:Int)(s:Bs)(n:Nat)(A:Option Addr)(la cA:Nat)(B:Option Addr)(lb cB:Nat)(hG:CG w0 w G vl fu k0 c fm m)(hk:nbz (.mk k a s n ps l)<=134217728)(hm:m+nbz (.mk k a s n ps l)<=(c.rd+1) * 134217728)(hT:TrV w0 (.mk k a s n ps l) k a s n A la cA B lb cB)(hok:okSs fu 2 l) :
  Calls Tryz.prog 123 #[.pointer (some ⟨G.g,0,none⟩),aO k a s n A la cA B lb cB] w (SP w0 w G vl fu k0 m c.rd (nbz (.mk k a s n ps l)) (lpR fu a s l c)):=by
 obtain ⟨-,-,-,-,rfl,rfl,hP,hs,-,-,-,-,-⟩:=hT.parts;obtain ⟨wn,hwn,hbn,aK,hsn⟩:=dw w (nB k a s n A l.length cA B ps.length cB);obtain ⟨⟨e0,e1,e2,e3,e4,e5⟩,z0,z1,z2,z3,z4,z5⟩:=Aa.c6 aK;have HG0:=Hi hG;have HG:=Hi (hG.below hbn);have HXN:=Hi aK;have HUN:=Hi (Upd.of_below hbn (fun _=>False));have HSN:=Hi hsn;have HW:=Hi hwn;have HOK:=Hi hok;have HH:=Hi H;have HS:=Hi hs;have hnb:nbz (.mk k a s n ps l)=ps.length+1+au l:=rfl;have HNB:=Hi hnb;have HK:=Hi hk;have HM:=Hi hm;have HCU:=Hi (cutL wn 2 hP V2);obtain ⟨res,hres⟩:∃ res,lpR fu a s l c=res:=⟨_,rfl⟩;rw [hres];have Ad:=Hi (show bdS c.kn l (fun i j=>roB 2000 a s (fun d=>xTs fu 2 l d) (j.toNat - i.toNat) i c) res 0 0 0 from ⟨rfl,rfl,hres⟩);obtain ⟨cost,hcost⟩:∃ cost,nbz (.mk k a s n ps l)=cost:=⟨_,rfl⟩;rw [hcost] at HNB HK HM ⊢;clear hG hk hm hT hok H hP hs hwn hbn aK hsn hres hnb hcost;go_enter Tryz.func123,Tryz.ntmps123;go_upto_region 1 with fail
 rw [HW.out];go_wp2_with fail
 refine (show Calls Tryz.prog 94 #[.slice A l.length cA,.int .i64 2] wn _ from HCU.out).mono ?_;rintro e w1 ⟨l1,l2,A1,c1,A2,c2,h1,h2,rfl,hP1,hP2,hb1⟩;obtain ⟨w2,hw2,hb2,hX2⟩:=aS w1 #[.int .u32 0,.int .u32 0] 199;have hb12:=hb1.trans (hb2.mono hb1.size);obtain ⟨ab,hab⟩:∃ ab,w1.heap.size=ab:=⟨_,rfl⟩;rw [hab] at hX2;have HG2:=Hi (HG.out.below hb12);have HXN2:=Hi (HXN.out.below hb12 HXN.out.lt);have Ai:=Hi (HUN.out.trans (Upd.of_below hb12 _));have Ah:=Hi (show Aa w2 ab 199 #[uV 0,uV 0] from hX2);have HAB:=Hi (show w.heap.size < ab from by have:=hb1.size;have:=HSN.out;omega);have HL1:=Hi h1;have HL2:=Hi h2;have Be:=Hi hP1;have Ar:=Hi hP2;have HW2:=Hi hw2;have hl1m:l1.length<=9223372036854775807:=Nat.le_trans hP1.le hP1.cap;have HL12:=Hi (show l1.length<=2 from by rw [h1,List.length_take];omega);have HAE:=Hi hab;clear h1 h2 hP1 hP2 hb1 hw2 hb2 hX2 hb12 HCU e0 e1 e2 e3 e4 e5 z0 z1 z2 z3 z4 z5;go_upto_region 3 with fail
 rw [HW2.out];clear hab;go_wp2_with fail
 go_loopw [18] (fun vi wr=>∃ (t:Nat) (x0 x1:BitVec 32),t<=l1.length/\vi = .int .i64 (t:Int)/\Hid (CG w0 wr G vl fu k0 c fm m)/\Hid (Aa wr w.heap.size 26 (nB k a s n A l.length cA B ps.length cB))/\Hid (Aa wr ab 199 #[uV x0,uV x1])/\Hid (Upd (fun _=>False) w wr)/\Hid (bdS c.kn l (fun i j=>roB 2000 a s (fun d=>xTs fu 2 l d) (j.toNat - i.toNat) i c) res t x0 x1)) (fun vi _=>l1.length - (intOf vi).toNat)
 case atStart=>exact ⟨0,0,0,V0,rfl,HG2,HXN2,Ah,Ai,Ad⟩
 case round=>
  obtain ⟨t,x0,x1,hi,rfl,HGr,HXr,HAr,HUr,HBS⟩:=hrel;by_cases hlt:t < l1.length
  ·obtain ⟨y,hy⟩:∃ y,l1[t]?=some y:=⟨_,List.getElem?_eq_getElem hlt⟩;have hyl:l[t]?=some y:=by
    have h:=hy;rw [HL1.out] at h;rw [List.getElem?_take] at h;have:=HL12.out
    rwa [if_pos V0] at h
   obtain ⟨bb,oo,k',a',s',n',A',la',bu,B',lb',bA,hA,hTy,hbl,g0',g1,g2,g3,g4,g5⟩:=Be.out.at_ HGr.out.bel hy;subst hA;obtain ⟨wb,hwb,hbb,hXb,hsb⟩:=dw wr (nB k' a' s' n' A' la' bu B' lb' bA);have hdr:Below wb.heap.size wb wb.drew:=Below.drew (Below.refl _ _);obtain ⟨wd,hwd⟩:∃ u,wb.drew=u:=⟨_,rfl⟩;rw [hwd] at hdr;have hbd:=hbb.trans (hdr.mono hbb.size);have HPd:=Hi (hXb.below hdr hXb.lt);have HGd:=Hi (HGr.out.below hbd);have HXd:=Hi (HXr.out.below hbd HXr.out.lt);have HAd:=Hi (HAr.out.below hbd HAr.out.lt);have HUd:=Hi (HUr.out.trans (Upd.of_below hbd _));obtain ⟨⟨e0,e1,e2,e3,e4,e5⟩,z0,z1,z2,z3,z4,z5⟩:=Aa.c6 hXb;have HWB:=Hi hwb;have HWD:=Hi hwd;have HTY:=Hi hTy;have HYL:=Hi hyl;have hbl2:bb < wr.heap.size:=Nat.lt_of_lt_of_le hbl HGr.out.bel.size;have HPB:=Hi (show ab < wr.heap.size from HAr.out.lt);have hil:(t:Int) < (l1.length:Int):=V0;have HMU:=Hi (mustBe (w0:=w0) (b:=G.kb) (q:=m) (kn:=c.kn) wd y k' a' s' n' A' la' bu B' lb' bA HGd.out.bel HGd.out.kno hTy);obtain ⟨r2,hr2⟩:∃ r2,strB (bL c.kn) y=r2:=⟨_,rfl⟩;rw [hr2] at HMU;have HR2:=Hi hr2;clear hwb hbb hXb hTy hy hyl hsb hdr hwd hbd hr2;go_upto_region 6 with fail
   rw [HWB.out];have hwd:=HWD.out;clear e0 e1 e2 e3 e4 e5 z0 z1 z2 z3 z4 z5 HWD;have aa:Below wd.heap.size wd wd:=Below.refl _ _;refine HT.wp_region (Z:=fun w'=>Below wd.heap.size wd w') (S:=fun _=>True) (st:=[]) V1 ?_;rw [hwd];clear hwd;refine HT.k 0 rfl (by intro v hSw;have hA:=HPd.out.below hSw HPd.out.lt;have E_:=Aa.c6 hA;have hga:=hA.lt;clear hSw hA;go_simp;try with_reducible rfl) aa ?_;refine HT.m 1 aa ?_;refine HT.m 2 aa ?_;refine HT.m 3 aa ?_;refine HT.k 4 rfl (by intro v hSw;have hA:=HGd.out.blk.below hSw HGd.out.blk.lt;obtain ⟨q0,q1,q2,q3,q4,q5,q6⟩:=Aa.c7 hA;have hga:=hA.lt;clear hSw hA;go_simp;try with_reducible rfl) aa ?_;refine HT.one (i:=5) V1 rfl (fun K hK=>?_);go_simp;refine (show Calls Tryz.prog 148 #[aO k' a' s' n' A' la' bu B' lb' bA,.map (some G.kb)] wd _ from HMU.out).mono ?_;intro e w4 h4;cases r2 with
   | some r2=>
    obtain ⟨rfl,hb4⟩:=h4;have Ac:=Hi (show SP w0 w G vl fu k0 m c.rd cost res (panF r2.2.1 (badB c.kn r2)) w4 from by
     rw [bdS_bad HBS.out (by have:=HL12.out;omega) HYL.out HR2.out];exact ⟨rfl,(HUd.out.trans (Upd.of_below hb4 _)).mono fun _ h=>h.elim⟩)
    exact Vl
   | none=>
    obtain ⟨rfl,hb4⟩:=h4;(try dsimp only);refine hK.out _ _ hb4 trivial ?_;clear hK K;(try simp only [HT.pS]);refine HT.done V1 ?_;have hdr:Below w4.heap.size w4 w4.drew:=Below.drew (Below.refl _ _);obtain ⟨wy,hwd⟩:∃ u,w4.drew=u:=⟨_,rfl⟩;rw [hwd] at hdr;have hbd:=hb4.trans (hdr.mono hb4.size);have HPy:=Hi (HPd.out.below hbd HPd.out.lt);have HGy:=Hi (HGd.out.below hbd);have HXy:=Hi (HXd.out.below hbd HXd.out.lt);have HAy:=Hi (HAd.out.below hbd HAd.out.lt);have HUy:=Hi (HUd.out.trans (Upd.of_below hbd _));have HWO:=Hi (worth (w0:=w0) (b:=G.kb) (q:=m) (kn:=c.kn) (SizeOf.sizeOf y+1) y (Nat.lt_succ_self _) wy k' a' s' n' A' la' bu B' lb' bA HGy.out.bel HGy.out.kno HTY.out HR2.out);have hmf:∀ (fn:Fn) (first cap:Array Value) (w:World),(Instr.makeFunc fn first cap).run Tryz.prog w = .ok (.func fn first cap) w:=fun _ _ _ _=>rfl
    have HNA:=Hi (show ¬ wr.heap.size=ab from by have:=HPB.out;omega);have HNG:=Hi (show ¬ G.g=ab from by have:=HG0.out.lt _ (.inl rfl);have:=HAB.out;omega);have HWD:=Hi hwd;clear aa hb4 hdr hbd hwd;have hbs:=HBS.out;have hyl:=HYL.out;have ht2:t = 0\/t = 1:=by have:=HL12.out;omega
    have hst:=HR2.out;rcases ht2 with rfl | rfl
    ·have hbs2:=bdS_0 hbs hyl hst;clear hbs hyl hst;go_wp2_with fail
     have hwd:=HWD.out;generalize aX (bL c.kn) y=x2 at HWO hbs2;have HB2:=Hi hbs2;clear hbs2 HWD;have aa:Upd (fun b=>b=ab) wy wy:=Upd.refl _ _;refine HT.wp_region (Z:=fun w'=>Upd (fun b=>b=ab) wy w') (S:=fun _=>True) (st:=[]) V1 ?_;rw [hwd];clear hwd;refine HT.m 0 aa ?_;refine HT.k 1 rfl V3I aa ?_;refine HT.m 2 aa ?_;refine HT.m 3 aa ?_;refine HT.m 4 aa ?_;refine HT.k 5 rfl V2Y aa ?_;refine HT.m 6 aa ?_;refine HT.one (i:=7) V1 rfl (fun K hK=>?_);go_simp;refine (show Calls Tryz.prog 73 #[aO k' a' s' n' A' la' bu B' lb' bA,nuV G.kb] wy _ from HWO.out).mono ?_;rintro e w6 ⟨rfl,hb6⟩;have di:Upd (fun b=>b=ab) wy w6:=Upd.of_below hb6 _;(try dsimp only);refine hK.out _ _ di trivial ?_;clear hK K;(try simp only [HT.pS]);refine HT.k 8 rfl V3J di ?_;have hA6:=HAy.out.below hb6 HAy.out.lt;obtain ⟨d0,d1,f0,f1⟩:=q6Z hA6;have hga:=hA6.lt;have hz7:Upd (fun b=>b=ab) wy (w6.setCell ⟨ab,0,none⟩ (uV x2)):=di.setCell (p:=⟨ab,0,none⟩) (fun _=>rfl) _;have hus:Upd (fun b=>b=ab) w6 (w6.setCell ⟨ab,0,none⟩ (uV x2)):=(Upd.refl (fun b=>b=ab) w6).setCell (p:=⟨ab,0,none⟩) (fun _=>rfl) _;have H1:=Hi ((HGy.out.below hb6).far1 hus (fun h=>by have:=HG0.out.lt _ h;have:=HAB.out;omega) V3K V4l);have H2:=Hi ((HXy.out.below hb6 HXy.out.lt).upd hus (by have:=HAB.out;omega));have H3:=Hi (show Aa _ ab 199 #[uV x2,uV x1] from hA6.set 0 (uV x2));have H4:=Hi (q6W (HUy.out.trans (Upd.of_below hb6 _)) (show w.heap.size<=ab from Nat.le_of_lt HAB.out) hus);refine HT.one (i:=9) V1 rfl (fun K hK=>?_);go_simp;(try dsimp only);refine hK.out _ _ hz7 trivial ?_;clear hK K;(try simp only [HT.pS]);refine HT.done V1 ?_;clear aa di hz7 hus hb6 hA6 d0 d1 f0 f1 hga hmf;go_wp2_with fail
     go_roundw
     case rel=>exact ⟨0+1,x2,x1,V0,by first | rfl | go_num,H1,H2,H3,H4,HB2⟩
     case measure=>simp [intOf];omega
    ·have hbs2:=bdS_1 hbs hyl hst;clear hbs hyl hst;go_wp2_with fail
     have hwd:=HWD.out;generalize aX (bL c.kn) y=x2 at HWO hbs2;have HB2:=Hi hbs2;clear hbs2 HWD;have aa:Upd (fun b=>b=ab) wy wy:=Upd.refl _ _;refine HT.wp_region (Z:=fun w'=>Upd (fun b=>b=ab) wy w') (S:=fun _=>True) (st:=[]) V1 ?_;rw [hwd];clear hwd;refine HT.m 0 aa ?_;refine HT.k 1 rfl V3I aa ?_;refine HT.m 2 aa ?_;refine HT.m 3 aa ?_;refine HT.m 4 aa ?_;refine HT.k 5 rfl V2Y aa ?_;refine HT.m 6 aa ?_;refine HT.one (i:=7) V1 rfl (fun K hK=>?_);go_simp;refine (show Calls Tryz.prog 73 #[aO k' a' s' n' A' la' bu B' lb' bA,nuV G.kb] wy _ from HWO.out).mono ?_;rintro e w6 ⟨rfl,hb6⟩;have di:Upd (fun b=>b=ab) wy w6:=Upd.of_below hb6 _;(try dsimp only);refine hK.out _ _ di trivial ?_;clear hK K;(try simp only [HT.pS]);refine HT.k 8 rfl V3J di ?_;have hA6:=HAy.out.below hb6 HAy.out.lt;obtain ⟨d0,d1,f0,f1⟩:=q6Z hA6;have hga:=hA6.lt;have hz7:Upd (fun b=>b=ab) wy (w6.setCell ⟨ab,1,none⟩ (uV x2)):=di.setCell (p:=⟨ab,1,none⟩) (fun _=>rfl) _;have hus:Upd (fun b=>b=ab) w6 (w6.setCell ⟨ab,1,none⟩ (uV x2)):=(Upd.refl (fun b=>b=ab) w6).setCell (p:=⟨ab,1,none⟩) (fun _=>rfl) _;have H1:=Hi ((HGy.out.below hb6).far1 hus (fun h=>by have:=HG0.out.lt _ h;have:=HAB.out;omega) V3K V4l);have H2:=Hi ((HXy.out.below hb6 HXy.out.lt).upd hus (by have:=HAB.out;omega));have H3:=Hi (show Aa _ ab 199 #[uV x0,uV x2] from hA6.set 1 (uV x2));have H4:=Hi (q6W (HUy.out.trans (Upd.of_below hb6 _)) (show w.heap.size<=ab from Nat.le_of_lt HAB.out) hus);refine HT.one (i:=9) V1 rfl (fun K hK=>?_);go_simp;(try dsimp only);refine hK.out _ _ hz7 trivial ?_;clear hK K;(try simp only [HT.pS]);refine HT.done V1 ?_;clear aa di hz7 hus hb6 hA6 d0 d1 f0 f1 hga hmf;go_wp2_with fail
     go_roundw
     case rel=>exact ⟨1+1,x0,x2,V0,by first | rfl | go_num,H1,H2,H3,H4,HB2⟩
     case measure=>simp [intOf];omega
  ·obtain rfl:t=l1.length:=by omega
   have hend:=bdS_end HBS.out (by rw [HL1.out]);have HEQ:=Hi (show roB 2000 a s (fun d=>xTs fu 2 l d) (x1.toNat - x0.toNat) x0 c=res from hend);obtain ⟨d0,d1,f0,f1⟩:=q6Z HAr.out;have hga:=HAr.out.lt;have HMX:=Hi (Nat.le_refl m);obtain ⟨wS,hwS⟩:∃ wS,wr=wS:=⟨_,rfl⟩;have HSZ:=Hi (show wr.heap.size=wS.heap.size from by rw [hwS]);have HSA:=Hi (show ab < wS.heap.size from by rw [<-hwS];exact HAr.out.lt);have HUS:=Hi (show w.heap.size<=wS.heap.size from by rw [<-hwS];exact HUr.out.size);have Bc:=Hi (HUr.out.mono (Y:=ow G vl) fun _ h=>h.elim);clear hend hwS HBS;go_wp2_with fail
   go_loopw [9] (fun v9 wr=>∃ (i:BitVec 32) (ci:Sf) (vli:Value) (fmi:Kw) (mi:Nat),v9=uV i/\Hid (CG w0 wr G vli fu k0 ci fmi mi)/\Hid (Nw vl vli wS/\wS.heap.size<=wr.heap.size)/\Hid (Upd (ow G vl) w wr)/\Hid (Aa wr w.heap.size 26 (nB k a s n A l.length cA B ps.length cB))/\Hid (Aa wr ab 199 #[uV x0,uV x1])/\Hid (mi+c.rd * 134217728<=m+ci.rd * 134217728/\c.rd<=ci.rd)/\Hid (roB 2000 a s (fun d=>xTs fu 2 l d) (x1.toNat - i.toNat) i ci=res)) (fun v9 _=>x1.toNat - (intOf v9).toNat)
   case atStart=>exact ⟨x0,c,vl,fm,m,rfl,HGr,Hi ⟨Nw.refl _ _,by rw [HSZ.out];exact Nat.le_refl _⟩,Bc,HXr,HAr,Hi ⟨Nat.le_refl _,Nat.le_refl _⟩,HEQ⟩
   case round=>
    obtain ⟨i,ci,vli,fmi,mi,rfl,HGq,HNW,HUq,HXq,HAq,HBQ,HQ⟩:=hrel;clear d0 d1 f0 f1 hga;obtain ⟨d0,d1,f0,f1⟩:=q6Z HAq.out;have hga:=HAq.out.lt;obtain ⟨q0,q1,q2,q3,q4,q5,q6⟩:=Aa.c7 HGq.out.blk;have f4:=HGq.out.blk.frozen 4;have hgg:=HGq.out.blk.lt;have hNO:∀ b,b < wS.heap.size->w.heap.size<=b->¬ ow G vli b:=fun b hb hlo h=>by
     have h1:=q86 HNW.out.1 b h hb;have:=HG0.out.lt b h1;omega
    have HN1:=Hi (hNO ab HSA.out (Nat.le_of_lt HAB.out));have HN2:=Hi (hNO w.heap.size (by have:=HSA.out;have:=HAB.out;omega) (Nat.le_refl _));clear hNO;by_cases hij:i.toNat < x1.toNat
    ·have hij':(i.toNat:Int) < (x1.toNat:Int):=by omega
     obtain ⟨nn,hnn⟩:∃ nn,x1.toNat - i.toNat=nn+1:=⟨x1.toNat - i.toNat - 1,V0⟩;have hq:=HQ.out;rw [hnn] at hq;unfold roB at hq;have hrd0:(0:Int)<=(ci.rd:Int):=V0;have hrd1:(ci.rd:Int)<=2000:=by have:=HGq.out.rdb;omega
     obtain ⟨w6,hw6⟩:∃ u,wr.setCell ⟨G.g,4,none⟩ (.int .i64 ((ci.rd:Int)+1))=u:=⟨_,rfl⟩;have bX:Upd (fun b=>b=G.g) wr w6:=by rw [<-hw6];exact (Upd.refl (fun b=>b=G.g) wr).setCell (p:=⟨G.g,4,none⟩) (fun _=>rfl) _
     have hB6:Aa w6 G.g 118 (gxA G vli ((ci.rd:Int)+1) ci.nd 0):=by rw [<-hw6];exact HGq.out.blk.set 4 _
     have hngn:¬ w.heap.size=G.g:=fun h=>HN2.out (.inl h)
     have hnga:¬ ab=G.g:=fun h=>HN1.out (.inl h)
     have hX6:=HXq.out.upd bX hngn;have HW6:=Hi hw6;have HX6:=Hi hX6;have HA6:=Hi (HAq.out.upd bX hnga);have HU6:=Hi bX;obtain ⟨p0,p1,p2,p3,p4,p5,p6⟩:=Aa.c7 hB6;have hg6:=hB6.lt;by_cases hbig:2000 < ci.rd+1
     ·have hbig':(2000:Int) < (ci.rd:Int)+1:=by omega
      rw [if_pos hbig] at hq;have Ac:=Hi (show SP w0 w G vl fu k0 m c.rd cost res (panF a 150) w6 from by
       rw [<-hq];exact ⟨rfl,HUq.out.trans (bX.mono fun b hb=>.inl hb)⟩)
      obtain ⟨⟨e0,e1,e2,e3,e4,e5⟩,z0,z1,z2,z3,z4,z5⟩:=Aa.c6 hX6;have hgx:=hX6.lt;clear hq hbig hw6 bX hB6 hX6 hngn hnga hnn;go_upto_region 13 with fail
      rw [HW6.out];clear d0 d1 f0 f1 q0 q1 q2 q3 q4 q5 q6 f4 hgg;exact Vk
     ·have hbig':¬ (2000:Int) < (ci.rd:Int)+1:=by omega
      rw [if_neg hbig] at hq;have hG6:=HGq.out.box bX (rd:=ci.rd+1) (nd:=ci.nd) (by push_cast;exact hB6) V0;have hb1:=HBQ.out.1;have hb2:=HBQ.out.2;have hmm:=HM.out;have hkk:=HK.out;have hnb:=HNB.out;have hd2:au l2<=au l:=by rw [HL2.out];exact q1z 2 l
      have HRO:=Hi (round_ l2 (fun y hy=>HH.out y (List.mem_of_mem_drop (by rw [HL2.out] at hy;exact hy))) w6 G vli k0 { ci with rd:=ci.rd+1,nd:=ci.nd } fmi mi s HS.out i A2 c2 hG6 V0 (by show mi+1+au l2<=(ci.rd+1+1) * 134217728;omega) Ar.out (by rw [HL2.out];exact q4l 2 HOK.out));obtain ⟨r3,hr3⟩:∃ r3,rndR fu s i l2 { ci with rd:=ci.rd+1,nd:=ci.nd }=r3:=⟨_,rfl⟩;rw [hr3] at HRO;have hq2:aP r3 (fun d=>roB 2000 a s (fun d=>xTs fu 2 l d) nn (i+1) d)=res:=by
       rw [<-hr3,<-hq];unfold rndR;rw [q1d,HL2.out,<-q5q fu 2 l];rfl
      have AL:=Hi hq2;obtain ⟨⟨e0,e1,e2,e3,e4,e5⟩,z0,z1,z2,z3,z4,z5⟩:=Aa.c6 hX6;have hgx:=hX6.lt;have HNN:=Hi hnn;have HRDB:=Hi (show ci.rd+1<=2000 from V0);clear hq hq2 hbig hw6 bX hB6 hX6 hngn hnga hG6 hb1 hb2 hmm hkk hnb hd2 hr3 hnn;go_upto_region 13 with fail
      rw [HW6.out];clear d0 d1 f0 f1 q0 q1 q2 q3 q4 q5 q6 f4 hgg;go_wp2_with fail
      refine (show Calls Tryz.prog 150 #[.pointer (some ⟨G.g,0,none⟩),.string ⟨s.toArray⟩,uV i,.slice A2 l2.length c2] w6 _ from HRO.out).mono ?_;intro e w7 h7;clear e0 e1 e2 e3 e4 e5 z0 z1 z2 z3 z4 z5 p0 p1 p2 p3 p4 p5 p6 hgx hg6;have hu16:Upd (ow G vl) w w6:=HUq.out.trans (HU6.out.mono fun b hb=>.inl hb);have hnw6:∀ b,ow G vli b->b < w.heap.size->ow G vl b:=fun b hb hlt=>q86 HNW.out.1 b hb (by have:=HUS.out;omega)
      cases r3 with
      | bad a2 er2=>
       obtain ⟨rfl,hu7⟩:=h7;have Ac:=Hi (show SP w0 w G vl fu k0 m c.rd cost res (panF a2 er2) w7 from by
        rw [<-show Rf.bad a2 er2=res from AL.out];exact ⟨rfl,dm hu16 hu7 hnw6⟩)
       clear hu7 hu16 hnw6;exact Vk
      | ok d=>
       obtain ⟨rfl,vl7,fm7,m7,hG7,hN7,hu7,bO,hrd7⟩:=h7;have hs67:=hu7.size;have hsq:=HNW.out.2;have hs6:=HU6.out.size;have H1:=Hi hG7;have H2:=Hi (show Nw vl vl7 wS/\wS.heap.size<=w7.heap.size from ⟨HNW.out.1.trans V0 hN7,V0⟩);have H3:=Hi (dm hu16 hu7 hnw6);have H4:=Hi (HX6.out.upd hu7 HN2.out);have H5:=Hi (HA6.out.upd hu7 HN1.out);have H6:=Hi (show m7+c.rd * 134217728<=m+d.rd * 134217728/\c.rd<=d.rd from by
        have h1:=HBQ.out.1;have h2:=HBQ.out.2;have h3:=HK.out;have h4:=HNB.out;have h5:au l2<=au l:=by rw [HL2.out];exact q1z 2 l
        have h6:m7+(ci.rd+1) * 134217728<=mi+(1+au l2)+d.rd * 134217728:=bO;have h7:ci.rd+1<=d.rd:=hrd7;omega)
       have hi1:(i+1).toNat=i.toNat+1:=by
        have:=x1.isLt;rw [BitVec.toNat_add];show (i.toNat+1) % 4294967296=_;omega
       have H7:=Hi (show roB 2000 a s (fun d=>xTs fu 2 l d) (x1.toNat - (i+1).toNat) (i+1) d=res from by
        rw [hi1,show x1.toNat - (i.toNat+1)=nn from by have:=HNN.out;omega];exact AL.out)
       have HI1:=Hi hi1;have hib:i.toNat+1 < 4294967296:=by have:=x1.isLt;omega
       clear hG7 hN7 hu7 bO hrd7 hu16 hnw6 hs67 hsq hs6 hi1;go_wp2_with fail
       go_roundw
       case rel=>
        refine ⟨i+1,d,vl7,fm7,m7,?_,H1,H2,H3,H4,H5,H6,H7⟩;show Value.int .u32 _ = .int .u32 (((i+1).toNat:Nat):Int);rw [HI1.out]
        first | (push_cast;rfl) | (congr 1;omega)
       case measure=>
        simp [intOf];omega
    ·have hij':¬ (i.toNat:Int) < (x1.toNat:Int):=by omega
     have hq:=HQ.out;rw [show x1.toNat - i.toNat = 0 from V0] at hq;unfold roB at hq;have Ac:=Hi (show SP w0 w G vl fu k0 m c.rd cost res (.returned (.tuple #[])) wr from by
      rw [<-hq];have hb:=HBQ.out;refine ⟨rfl,vli,fmi,mi,HGq.out,?_,HUq.out,V0,hb.2⟩;rcases HNW.out.1 with h | ⟨n,h3,h4⟩
      ·exact .inl h
      ·exact .inr ⟨n,Nat.le_trans HUS.out h3,h4⟩)
     clear hq;exact Vd
theorem xT_mk(fu:Fu)(k a:Int)(s:Bs)(n:Nat)(ps:List Bs)(l:List Tz)(c:Sf):xT fu (.mk k a s n ps l) c =
  if k = 6\/k = 7 then .ok { c with kn:=putsB c.kn (decide (k = 6)) ps }
  else if k = 10 then aP (hdB l c.nd (xC fu 61 c.kn)) fun q=>.ok { c with nd:=q.2,kn:=c.kn.put s ⟨q.1,none⟩ }
  else if k = 8\/k = 9 then outR fu k a s l c
  else if k = 11 then lpR fu a s l c
  else .ok c:=by
 conv=>lhs;unfold xT sfT
 rfl
theorem SP.from{w0 w w1 w':World}{G:Gx}{vl:Value}{fu:Fu}{k0:Kw}{m rd0 cost cost':Nat}{r:Rf Sf}{e:Ending}(h:SP w0 w1 G vl fu k0 m rd0 cost r e w')(hu:Below w.heap.size w w1)(hc:cost<=cost'):SP w0 w G vl fu k0 m rd0 cost' r e w':=by
 cases r with
 | ok c=>
  obtain ⟨h1,vl',fm',m',h2,h3,h4,h5,h6⟩:=h;refine ⟨h1,vl',fm',m',h2,?_,(Upd.of_below hu _).trans h4,V0,h6⟩;rcases h3 with h | ⟨n,h3,h7⟩
  ·exact .inl h
  ·exact .inr ⟨n,Nat.le_trans hu.size h3,h7⟩
 | bad a er=>exact ⟨h.1,(Upd.of_below hu _).trans h.2⟩
theorem statement_{w0:World}{fu:Fu}(k1 a1:Int)(s1:Bs)(n1:Nat)(ps:List Bs)(l:List Tz)(H:∀ y∈l,StAt w0 fu y):StAt w0 fu (.mk k1 a1 s1 n1 ps l):=by
 intro w G vl k0 c fm m k a s n A la cA B lb cB hG hk hm hT hok;have hT0:=hT;obtain ⟨rfl,rfl,rfl,rfl,rfl,rfl,hP,hs,-,hLB,hps,-,-⟩:=hT.parts;obtain ⟨wn,hwn,hbn,aK,hsn⟩:=dw w (nB k a s n A l.length cA B ps.length cB);obtain ⟨⟨e0,e1,e2,e3,e4,e5⟩,z0,z1,z2,z3,z4,z5⟩:=Aa.c6 aK;obtain ⟨hok1,hok2⟩:=q4m hok;have hnb:nbz (.mk k a s n ps l)=ps.length+1+au l:=rfl;have HG0:=Hi hG;have HG:=Hi (hG.below hbn);have HXN:=Hi aK;have HBN:=Hi hbn;have HSN:=Hi hsn;have HW:=Hi hwn;have HTZ:=Hi hT0;have HS:=Hi hs;have HPS:=Hi hps;have HOK1:=Hi hok1;have HOK2:=Hi hok2;have HH:=Hi H;have HK:=Hi hk;have HM:=Hi hm;have HNB:=Hi hnb;have HRD:=Hi hG.rdb;have hgn:=aK.lt;have hpl:ps.length<=9223372036854775807:=V0;have HLB:=Hi hLB;have hLo:=HG.out.low (G.g) (.inl rfl);obtain ⟨res,hres⟩:∃ res,xT fu (.mk k a s n ps l) c=res:=⟨_,rfl⟩;rw [hres];rw [xT_mk] at hres;have Ad:=Hi hres;obtain ⟨cost,hcost⟩:∃ cost,nbz (.mk k a s n ps l)=cost:=⟨_,rfl⟩;have HCOST:=Hi hcost;rw [hcost] at HK HM HNB ⊢;have HLW:=Hi (show ∀ b,ow G vl b->b < w.heap.size from hG.lt);clear hG hk hm hT hT0 hok hok1 hok2 hnb hwn hbn aK hsn hP hs hps hLB H hres hLo hcost;go_enter Tryz.func95,Tryz.ntmps95;go_upto_region 1 with fail
 rw [HW.out];by_cases hk67:k = 6\/k = 7
 ·have HR:=Hi (show Rf.ok { c with kn:=putsB c.kn (decide (k = 6)) ps }=res from by rw [<-Ad.out,if_pos hk67]);obtain ⟨b6,hb6⟩:∃ b6,decide (k = 6)=b6:=⟨_,rfl⟩;have hkb:(k==6)=b6:=by rw [<-hb6,Bool.eq_iff_iff];simp
  rw [hb6] at HR;have h67:k = 6/\b6=true\/k = 7/\b6=false:=by
   rcases hk67 with h | h
   ·exact .inl ⟨h,by rw [<-hb6,h];rfl⟩
   ·exact .inr ⟨h,by rw [<-hb6,h];rfl⟩
  clear Ad hb6 hk67 hkb;rcases h67 with ⟨rfl,rfl⟩ | ⟨rfl,rfl⟩
  ·go_wp2_with fail
   go_loopw [14] (fun vi wr=>∃ (i:Nat) (kni:Kw) (fmi:Kw),i<=ps.length/\vi = .int .i64 (i:Int)/\Hid (CG w0 wr G vl fu k0 { c with kn:=kni } fmi (m+i))/\Hid (Aa wr w.heap.size 26 (nB 6 a s n A l.length cA B ps.length cB))/\Hid (Upd (ow G vl) w wr)/\Hid (putsB kni true (ps.drop i)=putsB c.kn true ps)) (fun vi _=>ps.length - (intOf vi).toNat)
   case atStart=>exact ⟨0,c.kn,fm,V0,rfl,HG,HXN,Hi (Upd.of_below HBN.out _),Hi rfl⟩
   case round=>
    obtain ⟨i,kni,fmi,hi,rfl,HGr,HXr,HUr,HQ⟩:=hrel;clear e0 e1 e2 e3 e4 e5 z0 z1 z2 z3 z4 z5;by_cases hlt:i < ps.length
    ·have hil:(i:Int) < (ps.length:Int):=by omega
     obtain ⟨p,hp⟩:∃ p,ps[i]?=some p:=⟨_,List.getElem?_eq_getElem hlt⟩;have f1:(ps.map ai)[i]?=some (.string ⟨p.toArray⟩):=VE;obtain ⟨b9,o9,hB9,hb9,hc9⟩:=(HLB.out.below HGr.out.bel).at_ f1;subst hB9;have g1:=hc9 _ _ f1;obtain ⟨⟨e0,e1,e2,e3,e4,e5⟩,z0,z1,z2,z3,z4,z5⟩:=Aa.c6 HXr.out;have hgx:=HXr.out.lt;have hq:=HQ.out;rw [drop_at hp] at hq
     conv at hq=>lhs;unfold putsB
     have AL:=Hi hq;have hmm:=HM.out;have hnb:=HNB.out;have hrd:=HRD.out;have HST:=Hi (set_ wr G vl fu k0 { c with kn:=kni } fmi (m+i) HGr.out V6 p (HPS.out p (List.mem_of_getElem? hp)) ⟨true,none⟩);clear hp f1 hc9 hq hmm hnb hrd;go_wp2_with fail
     refine (show Calls Tryz.prog 120 #[.pointer (some ⟨G.g,0,none⟩),.string ⟨p.toArray⟩,.agg #[.bool true,.bool false,.int .u32 0]] wr _ from HST.out).mono ?_;rintro e w4 ⟨rfl,fm4,hG4,aF⟩;have H1:=Hi hG4;have H2:=Hi (HXr.out.upd aF (fun h=>by
      have h1:=HLW.out G.kb (.inr (.inl rfl));have h2:=HLW.out G.rb (.inr (.inr (.inl rfl)));rcases h with h | h <;> omega));have H3:=Hi (HUr.out.trans (aF.mono fun b hb=>hb.elim (fun h=>.inr (.inl h)) fun h=>.inr (.inr (.inl h))))
     clear hG4 aF;go_wp2_with fail
     go_roundw
     case rel=>exact ⟨i+1,kni.put p ⟨true,none⟩,fm4,V0,V7,H1,H2,H3,AL⟩
     case measure=>simp [intOf];omega
    ·obtain rfl:i=ps.length:=by omega
     have hq:=HQ.out;rw [List.drop_length] at hq
     conv at hq=>lhs;unfold putsB
     have Ac:=Hi (show SP w0 w G vl fu k0 m c.rd cost res (.returned (.tuple #[])) wr from by
      rw [<-HR.out];have hG9:=HGr.out;rw [show kni=putsB c.kn true ps from hq] at hG9;have hnb:=HNB.out;exact ⟨rfl,vl,fmi,m+ps.length,hG9,Nw.refl _ _,HUr.out,V4h,Nat.le_refl _⟩)
     clear hq;exact Vd
  ·go_wp2_with fail
   go_loopw [14] (fun vi wr=>∃ (i:Nat) (kni:Kw) (fmi:Kw),i<=ps.length/\vi = .int .i64 (i:Int)/\Hid (CG w0 wr G vl fu k0 { c with kn:=kni } fmi (m+i))/\Hid (Aa wr w.heap.size 26 (nB 7 a s n A l.length cA B ps.length cB))/\Hid (Upd (ow G vl) w wr)/\Hid (putsB kni false (ps.drop i)=putsB c.kn false ps)) (fun vi _=>ps.length - (intOf vi).toNat)
   case atStart=>exact ⟨0,c.kn,fm,V0,rfl,HG,HXN,Hi (Upd.of_below HBN.out _),Hi rfl⟩
   case round=>
    obtain ⟨i,kni,fmi,hi,rfl,HGr,HXr,HUr,HQ⟩:=hrel;clear e0 e1 e2 e3 e4 e5 z0 z1 z2 z3 z4 z5;by_cases hlt:i < ps.length
    ·have hil:(i:Int) < (ps.length:Int):=by omega
     obtain ⟨p,hp⟩:∃ p,ps[i]?=some p:=⟨_,List.getElem?_eq_getElem hlt⟩;have f1:(ps.map ai)[i]?=some (.string ⟨p.toArray⟩):=VE;obtain ⟨b9,o9,hB9,hb9,hc9⟩:=(HLB.out.below HGr.out.bel).at_ f1;subst hB9;have g1:=hc9 _ _ f1;obtain ⟨⟨e0,e1,e2,e3,e4,e5⟩,z0,z1,z2,z3,z4,z5⟩:=Aa.c6 HXr.out;have hgx:=HXr.out.lt;have hq:=HQ.out;rw [drop_at hp] at hq
     conv at hq=>lhs;unfold putsB
     have AL:=Hi hq;have hmm:=HM.out;have hnb:=HNB.out;have hrd:=HRD.out;have HST:=Hi (set_ wr G vl fu k0 { c with kn:=kni } fmi (m+i) HGr.out V6 p (HPS.out p (List.mem_of_getElem? hp)) ⟨false,none⟩);clear hp f1 hc9 hq hmm hnb hrd;go_wp2_with fail
     refine (show Calls Tryz.prog 120 #[.pointer (some ⟨G.g,0,none⟩),.string ⟨p.toArray⟩,.agg #[.bool false,.bool false,.int .u32 0]] wr _ from HST.out).mono ?_;rintro e w4 ⟨rfl,fm4,hG4,aF⟩;have H1:=Hi hG4;have H2:=Hi (HXr.out.upd aF (fun h=>by
      have h1:=HLW.out G.kb (.inr (.inl rfl));have h2:=HLW.out G.rb (.inr (.inr (.inl rfl)));rcases h with h | h <;> omega));have H3:=Hi (HUr.out.trans (aF.mono fun b hb=>hb.elim (fun h=>.inr (.inl h)) fun h=>.inr (.inr (.inl h))))
     clear hG4 aF;go_wp2_with fail
     go_roundw
     case rel=>exact ⟨i+1,kni.put p ⟨false,none⟩,fm4,V0,V7,H1,H2,H3,AL⟩
     case measure=>simp [intOf];omega
    ·obtain rfl:i=ps.length:=by omega
     have hq:=HQ.out;rw [List.drop_length] at hq
     conv at hq=>lhs;unfold putsB
     have Ac:=Hi (show SP w0 w G vl fu k0 m c.rd cost res (.returned (.tuple #[])) wr from by
      rw [<-HR.out];have hG9:=HGr.out;rw [show kni=putsB c.kn false ps from hq] at hG9;have hnb:=HNB.out;exact ⟨rfl,vl,fmi,m+ps.length,hG9,Nw.refl _ _,HUr.out,V4h,Nat.le_refl _⟩)
     clear hq;exact Vd
 have i6:(k==6)=false:=V4;have i7:(k==7)=false:=V4;by_cases hk10:k = 10
 ·subst hk10;have hr:(aP (hdB l c.nd (xC fu 61 c.kn)) fun q=>Rf.ok { c with nd:=q.2,kn:=c.kn.put s ⟨q.1,none⟩ })=res:=by rw [<-Ad.out,if_neg hk67,if_pos rfl]
  have hdr:Below wn.heap.size wn wn.drew:=Below.drew (Below.refl _ _);obtain ⟨wd,hwd⟩:∃ u,wn.drew=u:=⟨_,rfl⟩;rw [hwd] at hdr;have HGd:=Hi (HG.out.below hdr);have HXd:=Hi (HXN.out.below hdr HXN.out.lt);have HUd:=Hi (Upd.of_below (HBN.out.trans (hdr.mono HBN.out.size)) (ow G vl));have HNX:=Hi (show ¬ ow G vl w.heap.size from fun h=>by have:=HLW.out _ h;omega);have HV:=Hi (value_ wd G vl fu k0 c fm m HGd.out ps l 10 a s n A l.length cA B ps.length cB HTZ.out (HOK1.out V0));obtain ⟨rv,hrv⟩:∃ rv,hdB l c.nd (xC fu 61 c.kn)=rv:=⟨_,rfl⟩;rw [hrv] at hr HV;have HR:=Hi hr;have HWD:=Hi hwd;clear hr hrv hdr hwd Ad hk67;go_upto_region 10 with fail
  have hwd:=HWD.out;clear e0 e1 e2 e3 e4 e5 z0 z1 z2 z3 z4 z5 HWD;have aa:Upd (ow G vl) wd wd:=Upd.refl _ _;refine HT.wp_region (Z:=fun w'=>Upd (ow G vl) wd w') (S:=fun _=>True) (st:=[]) V1 ?_;rw [hwd];clear hwd;refine HT.m 0 aa ?_;refine HT.k 1 rfl Vn aa ?_;refine HT.k 2 rfl Vn aa ?_;refine HT.m 3 aa ?_;refine HT.k 4 rfl Vn aa ?_;refine HT.one (i:=5) V1 rfl (fun K hK=>?_);go_simp;refine (show Calls Tryz.prog 121 #[.pointer (some ⟨G.g,0,none⟩),aO 10 a s n A l.length cA B ps.length cB] wd _ from HV.out).mono ?_;intro e w4 h4;cases rv with
  | bad a2 er2=>
   obtain ⟨rfl,aF⟩:=h4;have Ac:=Hi (show SP w0 w G vl fu k0 m c.rd cost res (panF a2 er2) w4 from by
    rw [<-show Rf.bad a2 er2=res from HR.out];exact ⟨rfl,HUd.out.trans (aF.mono fun b hb=>.inl hb)⟩)
   exact Vl
  | ok q=>
   obtain ⟨b2,nd2⟩:=q;obtain ⟨rfl,hG4,aF⟩:=h4;have hz4:Upd (ow G vl) wd w4:=aF.mono fun b hb=>.inl hb
   have hmm:=HM.out;have hrd:=HRD.out;have hnb:=HNB.out;have HST:=Hi (set_ w4 G vl fu k0 { c with nd:=nd2 } fm m hG4 V6 s HS.out ⟨b2,none⟩);clear hmm hrd hnb;(try dsimp only);refine hK.out _ _ hz4 trivial ?_;clear hK K;(try simp only [HT.pS]);refine HT.m 6 hz4 ?_;refine HT.one (i:=7) V1 rfl (fun K hK=>?_);go_simp;refine (show Calls Tryz.prog 120 #[.pointer (some ⟨G.g,0,none⟩),.string ⟨s.toArray⟩,.agg #[.bool b2,.bool false,.int .u32 0]] w4 _ from HST.out).mono ?_;rintro e w5 ⟨rfl,fm5,hG5,bn⟩;have hz5:Upd (ow G vl) wd w5:=hz4.trans (bn.mono fun b hb=>hb.elim (fun h=>.inr (.inl h)) fun h=>.inr (.inr (.inl h)));have Ac:=Hi (show SP w0 w G vl fu k0 m c.rd cost res (.returned (.tuple #[])) w5 from by
    rw [<-show Rf.ok { c with nd:=nd2,kn:=c.kn.put s ⟨b2,none⟩ }=res from HR.out];have hnb:=HNB.out;exact ⟨rfl,vl,fm5,m+1,hG5,Nw.refl _ _,HUd.out.trans hz5,by show m+1+c.rd * 134217728<=m+cost+c.rd * 134217728;omega,Nat.le_refl _⟩)
   (try dsimp only);refine hK.out _ _ hz5 trivial ?_;clear hK K;(try simp only [HT.pS]);refine HT.done V1 ?_;clear aa hz4 hz5 hG4 aF hG5 bn;exact Vd
 have i10:(k==10)=false:=by simpa using hk10
 by_cases hk89:k = 8\/k = 9
 ·have hr:outR fu k a s l c=res:=by rw [<-Ad.out,if_neg hk67,if_neg hk10,if_pos hk89]
  have hmm:=HM.out;have hrd:=HRD.out;have HO:=Hi (output_ wn G vl fu k0 c fm m HG.out V0 ps l k a s n A l.length cA B ps.length cB HTZ.out (HOK1.out V0));have HRDQ:=Hi (show ∀ d,res = .ok d->d.rd=c.rd from fun d h=>by
   rw [<-hr] at h;unfold outR at h;cases hv:hdB l c.nd (xC fu 61 c.kn) with
   | bad a e=>rw [hv] at h;cases h
   | ok q=>
    rw [hv] at h;have h':(if q.1=true/\k = 9 then Rf.bad a 130 else .ok { c with nd:=q.2,ou:=c.ou ++ [(s,q.1,decide (k = 9))] }) = .ok d:=h;by_cases hb:q.1=true/\k = 9
    ·rw [if_pos hb] at h';cases h'
    ·rw [if_neg hb] at h';cases h';rfl)
  rw [hr] at HO;clear hr hmm hrd Ad hk67;rcases hk89 with rfl | rfl
  ·go_wp2_with fail
   refine (show Calls Tryz.prog 122 #[.pointer (some ⟨G.g,0,none⟩),aO 8 a s n A l.length cA B ps.length cB] wn _ from HO.out).mono ?_;exact V2t
  ·go_wp2_with fail
   refine (show Calls Tryz.prog 122 #[.pointer (some ⟨G.g,0,none⟩),aO 9 a s n A l.length cA B ps.length cB] wn _ from HO.out).mono ?_;exact V2t
 have i8:(k==8)=false:=V4;have i9:(k==9)=false:=V4;by_cases hk11:k = 11
 ·subst hk11;have hr:lpR fu a s l c=res:=by rw [<-Ad.out,if_neg hk67,if_neg hk10,if_neg hk89,if_pos rfl]
  have HLO:=Hi (loop_ ps l HH.out wn G vl k0 c fm m 11 a s n A l.length cA B ps.length cB HG.out (by rw [HCOST.out];exact HK.out) (by rw [HCOST.out];exact HM.out) HTZ.out (HOK2.out rfl));rw [hr,HCOST.out] at HLO;clear hr Ad hk67;go_wp2_with fail
  refine (show Calls Tryz.prog 123 #[.pointer (some ⟨G.g,0,none⟩),aO 11 a s n A l.length cA B ps.length cB] wn _ from HLO.out).mono ?_;intro e w4 h4;have h4':=SP.from h4 HBN.out (Nat.le_refl cost);clear h4;have Ac:=Hi h4';cases res with
  | bad a2 er2=>
   obtain ⟨rfl,aF⟩:=h4';exact VW
  | ok d=>
   obtain ⟨rfl,_⟩:=h4';exact Vd
 have i11:(k==11)=false:=by simpa using hk11
 have Ac:=Hi (show SP w0 w G vl fu k0 m c.rd cost res (.returned (.tuple #[])) wn from by
  rw [<-show Rf.ok c=res from by rw [<-Ad.out,if_neg hk67,if_neg hk10,if_neg hk89,if_neg hk11]];exact ⟨rfl,vl,fm,m,HG.out,Nw.refl _ _,Upd.of_below HBN.out _,V0,Nat.le_refl _⟩)
 clear hk67 hk10 hk89 hk11 Ad;go_wp2_with fail
 first | go_end0 | skip
 all_goals first | exact Ac.out | exact bodyPost_ret (results_none rfl _ _ _) rfl Ac.out
theorem q8L{w0:World}{fu:Fu}:∀ (m:Nat) (z:Tz),SizeOf.sizeOf z < m->StAt w0 fu z
 | 0,z,h=>absurd h (Nat.not_lt_zero _)
 | m+1,.mk k a s n ps l,h=>statement_ k a s n ps l fun y hy=>q8L m y V1Q
def LnP(w0 w:World)(fb m:Nat)(fu:Fu)(e:Ending)(w':World):Prop:=e = .returned (.tuple #[])/\FuM w0 w' fb m fu/\Upd (fun b=>b=fb) w w'
def LnAt(w0:World)(l:List Tz):Prop:=
 ∀ (w:World) (g fb m:Nat) (fu:Fu) (A:Option Addr) (cA:Nat) (bx:Array Value),Below w0.heap.size w0 w->w0.heap.size<=fb->fb≠g->FuM w0 w fb m fu->m+au l<=134217728->Aa w g 118 bx->bx[1]?=some (.map (some fb))->Pts w0 A cA l ->
  Calls Tryz.prog 61 #[.pointer (some ⟨g,0,none⟩),.slice A l.length cA] w (LnP w0 w fb (m+au l) (lnTs 0 l fu))
theorem q70(x:Tz)(l:List Tz)(fu:Fu):lnTs 0 (x :: l) fu=lnTs 0 l (lnT x fu):=by conv=>lhs;unfold lnTs
theorem q3L(i:Nat)(fu:Fu):lnTs i [] fu=fu:=by cases i <;> (unfold lnTs;rfl)
theorem q4s:∀ (i:Nat) (l:List Tz) (fu:Fu),lnTs i l fu=lnTs 0 (l.drop i) fu
 | 0,l,fu=>rfl
 | i+1,[],fu=>by rw [q3L];simp [q3L]
 | i+1,x :: l,fu=>by
  rw [List.drop_succ_cons,<-q4s i l fu]
  conv=>lhs;unfold lnTs
theorem lnT_mk(k a:Int)(s:Bs)(n:Nat)(ps:List Bs)(l:List Tz)(fu:Fu):lnT (.mk k a s n ps l) fu=if k = 12 then (fun t=>if t=s then some (ps,l) else fu t) else if k = 11 then lnTs 2 l fu else fu:=by conv=>lhs;unfold lnT
theorem nbzs_le_drop':∀ (i:Nat) (l:List Tz),au (l.drop i)<=au l
 | 0,l=>Nat.le_refl _
 | i+1,[]=>V3
 | i+1,x :: l=>by
  rw [List.drop_succ_cons];have:=nbzs_le_drop' i l;exact V1Y
theorem learn_{w0:World}(l:List Tz)(H:∀ y∈l,LnAt w0 ((lz y).drop 2)):LnAt w0 l:=by
 intro w g fb m fu A cA bx hb0 hfb hne hF hm hB hbx hP;have hlm:l.length<=9223372036854775807:=Nat.le_trans hP.le hP.cap;have HH:=Hi H;have HP:=Hi hP;have HF:=Hi hF;have HB:=Hi hB;have HB0:=Hi hb0;have HM:=Hi hm;have HFB:=Hi hfb;have HNE:=Hi hne;have HBX:=Hi hbx;obtain ⟨res,hres⟩:∃ res,lnTs 0 l fu=res:=⟨_,rfl⟩;rw [hres];have Ad:=Hi hres;clear H hP hF hB hb0 hm hres hfb hne hbx;go_enter Tryz.func61,Tryz.ntmps61;go_wp2_with fail
 go_loopw [10] (fun vi wr=>∃ (i:Nat) (fi:Fu) (mi:Nat),i<=l.length/\vi = .int .i64 (i:Int)/\Hid (FuM w0 wr fb mi fi)/\Hid (Upd (fun b=>b=fb) w wr)/\Hid (mi+au (l.drop i)<=m+au l)/\Hid (lnTs 0 (l.drop i) fi=res)) (fun vi _=>l.length - (intOf vi).toNat)
 case atStart=>exact ⟨0,fu,m,V0,rfl,HF,Hi (Upd.refl _ _),Hi (Nat.le_refl _),Ad⟩
 case round=>
  obtain ⟨i,fi,mi,hi,rfl,HFi,HU,HMI,HQ⟩:=hrel;have HBr:=Hi (HB.out.upd HU.out (fun h=>HNE.out h.symm));have HB0r:=Hi (HB0.out.trans (HU.out.below (B:=w0.heap.size) HB0.out.size fun b hb=>hb ▸ HFB.out));by_cases hlt:i < l.length
  ·have hil:(i:Int) < (l.length:Int):=by omega
   obtain ⟨y,hy⟩:∃ y,l[i]?=some y:=⟨_,List.getElem?_eq_getElem hlt⟩;obtain ⟨bb,o,k',a',s',n',A',la',bu,B',lb',bA,hA,hTy,hbl,g0',g1,g2,g3,g4,g5⟩:=HP.out.at_ HB0r.out hy;subst hA;obtain ⟨wb,hwb,hbb,hXb,hsb⟩:=dw wr (nB k' a' s' n' A' la' bu B' lb' bA);have hnb:=nbzs_drop hy;have hq:=HQ.out;rw [drop_at hy,q70] at hq;have hyl:=List.mem_of_getElem? hy;obtain ⟨ky,ay,sy,ny,py,ly⟩:=y;have hT0:=hTy;obtain ⟨rfl,rfl,rfl,rfl,rfl,rfl,hPy,hsy,-,-,hpy,-,-⟩:=hTy.parts;rw [lnT_mk] at hq;have hnz:nbz (.mk k' a' s' n' py ly)=py.length+1+au ly:=rfl;have hb1:=HMI.out;have hmm:=HM.out;have hmi:mi+nbz (.mk k' a' s' n' py ly)+au (l.drop (i+1))<=m+au l:=V0;have HMI2:=Hi hmi;have HNZ:=Hi hnz;obtain ⟨⟨e0,e1,e2,e3,e4,e5⟩,z0,z1,z2,z3,z4,z5⟩:=Aa.c6 hXb;have hgx:=hXb.lt;have HWB:=Hi hwb;have AL:=Hi hq;have HUB:=Hi (HU.out.trans (Upd.of_below hbb _));have Ay:=Hi hbb;have HXB:=Hi hXb;have hbl2:bb < wr.heap.size:=Nat.lt_of_lt_of_le hbl HB0r.out.size;have HT0:=Hi hT0;have HPY:=Hi hPy;have HSY:=Hi hsy;have HPS:=Hi hpy;have HLY:=Hi (show LnAt w0 (ly.drop 2) from HH.out _ hyl);have HFW:=Hi (HFi.out.upd (Upd.of_below hbb fun _=>False) id);have HNX:=Hi (show ¬ wr.heap.size=fb from by have:=HFi.out.lt;omega);clear hwb hbb hXb hq hTy hT0 hy hsb hnb hnz hb1 hmm hmi hyl hPy hsy hpy;by_cases hk12:k' = 12
   ·subst hk12;have hq3:=AL.out;rw [if_pos rfl] at hq3;have HQ3:=Hi hq3;have hdr:Below wb.heap.size wb wb.drew:=Below.drew (Below.refl _ _);obtain ⟨wd,hwd⟩:∃ u,wb.drew=u:=⟨_,rfl⟩;rw [hwd] at hdr;have HXd:=Hi (HXB.out.below hdr HXB.out.lt);have HBd:=Hi (HBr.out.below (Ay.out.trans (hdr.mono Ay.out.size)) HBr.out.lt);have HUd:=Hi (HUB.out.trans (Upd.of_below hdr _));obtain ⟨kd,hkd,hfu⟩:=HFW.out.upd (Upd.of_below hdr fun _=>False) id;obtain ⟨w5,hrun,hM5,ht5⟩:=mpn_put hkd HSY.out (by have:=HMI2.out;have:=HM.out;have:=HNZ.out;unfold maxLen;omega) ⟨12,a',s',n',A',ly.length,bu,B',py.length,bA⟩;have hz5:Upd (fun b=>b=fb) wd w5:=q0f ht5 rfl;have HF5:=Hi (show FuM w0 w5 fb (mi+1) (fun t=>if t=s' then some (py,ly) else fi t) from ⟨_,hM5,fun t=>by
     by_cases e:t=s'
     ·subst e;rw [if_pos rfl];dsimp only;rw [if_pos rfl];exact ⟨_,rfl,HT0.out.1,HPS.out,HPY.out.len,HPY.out.num⟩
     ·have h:=hfu t;simp only [if_neg e];exact h⟩)
    have hrun':(Instr.mapUpdate 73 (.map (some fb)) (.string ⟨s'.toArray⟩) (.agg #[.int .i64 12,.string ⟨s'.toArray⟩,.int .u32 (n':Int),.int .i64 a',.slice A' ly.length bu,.slice B' py.length bA])).run Tryz.prog wd = .ok () w5:=hrun;have HWD:=Hi hwd;clear hdr hkd hfu hM5 ht5 hrun hq3;go_upto_region 5 with fail
    rw [HWB.out];clear hwd;have hwd:=HWD.out;clear e0 e1 e2 e3 e4 e5 z0 z1 z2 z3 z4 z5 HWD;have aa:Upd (fun b=>b=fb) wd wd:=Upd.refl _ _;refine HT.wp_region (Z:=fun w'=>Upd (fun b=>b=fb) wd w') (S:=fun _=>True) (st:=[]) V1 ?_;rw [hwd];clear hwd;refine HT.m 0 aa ?_;refine HT.m 1 aa ?_;refine HT.m 2 aa ?_;refine HT.k 3 rfl (by intro v hSw;have hA:=HBd.out.upd hSw (fun h=>HNE.out h.symm);have c1:=(hA.cell 1).trans HBX.out;have hga:=hA.lt;clear hSw hA;go_simp;try with_reducible rfl) aa ?_;refine HT.k 4 rfl Vn aa ?_;refine HT.k 5 rfl Vn aa ?_;refine HT.k 6 rfl Vn aa ?_;refine HT.one (i:=7) V1 rfl (fun K hK=>?_);go_simp;(try dsimp only);refine hK.out _ _ hz5 trivial ?_;clear hK K;(try simp only [HT.pS]);refine HT.done V1 ?_;have H2:=Hi (HUd.out.trans hz5);have H3:=Hi (show mi+1+au (l.drop (i+1))<=m+au l from by have:=HMI2.out;have:=HNZ.out;omega);clear aa hz5 hrun';go_wp2_with fail
    go_roundw
    case rel=>exact ⟨i+1,_,mi+1,V0,V7,HF5,H2,H3,HQ3⟩
    case measure=>simp [intOf];omega
   have i12:(k'==12)=false:=by simpa using hk12
   by_cases hk11:k' = 11
   ·subst hk11;have hq3:=AL.out;rw [if_neg V2,if_pos rfl,q4s 2] at hq3;have HCU:=Hi (cutL wb 2 HPY.out V2);have HQ3:=Hi hq3;clear hq3;go_wp2_with fail
    rw [HWB.out];refine (show Calls Tryz.prog 94 #[.slice A' ly.length bu,.int .i64 2] wb _ from HCU.out).mono ?_;rintro e w5 ⟨l1,l2,A1,c1,A2,c2,h1,h2,rfl,hP1,hP2,hb5⟩;have hnd:au l2<=au ly:=by rw [h2];exact nbzs_le_drop' 2 ly
    have hl2:=HLY.out;rw [<-h2] at hl2;have HLE:=Hi (hl2 w5 g fb mi fi A2 c2 bx ((HB0r.out.trans (Ay.out.mono HB0r.out.size)).trans (hb5.mono (Nat.le_trans HB0r.out.size Ay.out.size))) HFB.out HNE.out (HFW.out.upd (Upd.of_below hb5 fun _=>False) id) (by have:=HMI2.out;have:=HNZ.out;have:=HM.out;omega) (HBr.out.below (Ay.out.trans (hb5.mono Ay.out.size)) HBr.out.lt) HBX.out hP2);rw [h2,<-h2] at HLE;have AR:=Hi (HUB.out.trans (Upd.of_below hb5 _));have HND:=Hi hnd;rw [<-h2] at HQ3;clear h1 h2 hP1 hP2 hb5 hnd hl2 e0 e1 e2 e3 e4 e5 z0 z1 z2 z3 z4 z5;go_wp2_with fail
    refine (show Calls Tryz.prog 61 #[.pointer (some ⟨g,0,none⟩),.slice A2 l2.length c2] w5 _ from HLE.out).mono ?_;rintro e w6 ⟨rfl,hF6,bX⟩;have H1:=Hi hF6;have H2:=Hi (AR.out.trans bX);have H3:=Hi (show mi+au l2+au (l.drop (i+1))<=m+au l from by have:=HMI2.out;have:=HNZ.out;have:=HND.out;omega);clear hF6 bX;go_wp2_with fail
    go_roundw
    case rel=>exact ⟨i+1,_,mi+au l2,V0,V7,H1,H2,H3,HQ3⟩
    case measure=>simp [intOf];omega
   ·have i11:(k'==11)=false:=by simpa using hk11
    have hq3:=AL.out;rw [if_neg hk12,if_neg hk11] at hq3;have HQ3:=Hi hq3;have H3:=Hi (show mi+au (l.drop (i+1))<=m+au l from by have:=HMI2.out;omega);clear hq3 hk11 hk12;go_wp2_with fail
    rw [HWB.out]
    go_roundw
    case rel=>exact ⟨i+1,fi,mi,V0,V7,HFW,HUB,H3,HQ3⟩
    case measure=>simp [intOf];omega
  ·obtain rfl:i=l.length:=by omega
   have hq:=HQ.out;rw [List.drop_length,q3L] at hq;have Ac:=Hi (show LnP w0 w fb (m+au l) res (.returned (.tuple #[])) wr from by
    rw [<-hq];exact ⟨rfl,HFi.out.mono (by have:=HMI.out;omega),HU.out⟩)
   clear hq;exact Vd
theorem q4t:∀ (i:Nat) (l:List Tz),SizeOf.sizeOf (l.drop i)<=SizeOf.sizeOf l
 | 0,l=>Nat.le_refl _
 | i+1,[]=>V3
 | i+1,x :: l=>by
  rw [List.drop_succ_cons];have:=q4t i l;simp only [List.cons.sizeOf_spec];omega
theorem q4u{w0:World}:∀ (m:Nat) (l:List Tz),SizeOf.sizeOf l < m->LnAt w0 l
 | 0,l,h=>absurd h (Nat.not_lt_zero _)
 | m+1,l,h=>learn_ l fun y hy=>q4u m _ (by
  have h1:=List.sizeOf_lt_of_mem hy;obtain ⟨k,a,s,n,ps,ly⟩:=y;have h2:=q4t 2 ly;simp only [Tz.mk.sizeOf_spec] at h1;show SizeOf.sizeOf (ly.drop 2) < m;omega)
end Fl
namespace Fl
open Lx Pa Sh Go.Proofs.YtcgibpdjfgjldaaGreatDoor.Nm
def ErR{α:Type}:Rf α->Prop | .ok _=>True | .bad _ e=>e≠0
theorem ErR.bnd{α β:Type}{r:Rf α}{f:α->Rf β}(h:ErR r)(hf:∀ x,ErR (f x)):ErR (aP r f):=by
 cases r with
 | ok x=>exact hf x
 | bad a e=>exact h
theorem nu_er{num:Num}{kn:Kw}(z:Tz):ErR (nuB num kn z):=by
 unfold nuB;cases strB (bL kn) z with
 | none=>trivial
 | some e=>
  show badB kn e≠0;unfold badB;by_cases h:e.1 = 1/\secB kn e.2.2=true
  ·rw [if_pos h];decide
  ·rw [if_neg h];decide
theorem q71{f:Tz->Int->Rf (Bool×Int)}(h:∀ z nd,ErR (f z nd)):∀ (l:List Tz) (nd:Int),ErR (seqB f l nd)
 | [],nd=>trivial
 | x :: l,nd=>by
  unfold seqB;exact (h x nd).bnd fun q=>(q71 h l q.2).bnd fun r=>trivial
def ErC(sub:Sub):Prop:=∀ kn z nd,ErR (sub kn z nd)
theorem cal_er{fu:Fu}{sub:Sub}(hc:ErC sub)(s:Bs)(q:List Bool×Int):ErR (calB fu sub s q):=by
 unfold calB;by_cases hs:s=sel
 ·rw [if_pos hs];trivial
 rw [if_neg hs];cases fu s with
 | none=>trivial
 | some f=>exact (q71 (fun z nd=>hc _ z nd) _ _).bnd fun r=>trivial
section
variable {num : Num} {M : Int} {D R : Nat} {fu : Fu}
mutual
theorem q4v{kn:Kw}{deep:Bool}{sub:Sub}(hc:ErC sub):∀ (z:Tz) (nd:Int),ErR (exT num M fu deep sub kn z nd)
 | .mk k a s _ _ l,nd=>by
  unfold exT;by_cases h5:k = 5
  ·rw [if_pos h5];by_cases h1:M < nx nd\/deep=true
   ·rw [if_pos h1];show (150:Nat)≠0;decide
   rw [if_neg h1];exact (q71 (fun z nd=>hc _ z nd) _ _).bnd fun q=>cal_er hc s q
  rw [if_neg h5];by_cases h4:k = 4
  ·rw [if_pos h4];exact exS_er hc l _
  rw [if_neg h4];exact (q72 hc l _).bnd fun q=>trivial
theorem exS_er{kn:Kw}{deep:Bool}{sub:Sub}(hc:ErC sub):∀ (l:List Tz) (nd:Int),ErR (exS num M fu deep sub kn l nd)
 | [],nd=>by unfold exS;trivial
 | [x],nd=>by
  unfold exS;exact ErR.bnd (α:=BitVec 32) (r:=.ok 0) trivial fun _=>q4v hc x nd
 | x :: y :: l,nd=>by
  unfold exS;exact (nu_er y).bnd fun _=>q4v hc x nd
theorem q72{kn:Kw}{deep:Bool}{sub:Sub}(hc:ErC sub):∀ (l:List Tz) (nd:Int),ErR (exTs num M fu deep sub kn l nd)
 | [],nd=>by unfold exTs;trivial
 | x :: l,nd=>by
  unfold exTs;exact (q4v hc x nd).bnd fun q=>(q72 hc l q.2).bnd fun r=>trivial
end
theorem q73:∀ (c:Nat),ErC (exC num M fu c)
 | 0=>fun kn z nd=>by unfold exC;exact q4v (sub:=fun _ _ nd=>.ok (false,nd)) (fun _ _ _=>trivial) z nd
 | c+1=>fun kn z nd=>by unfold exC;exact q4v (q73 c) z nd
theorem hd_er{l:List Tz}{nd:Int}{f:Tz->Int->Rf (Bool×Int)}(h:∀ x nd,ErR (f x nd)):ErR (hdB l nd f):=by
 cases l with
 | nil=>trivial
 | cons x l=>exact h x nd
theorem ro_er{a:Int}{s:Bs}{body:Sf->Rf Sf}(hb:∀ c,ErR (body c)):∀ (n:Nat) (i:BitVec 32) (c:Sf),ErR (roB R a s body n i c)
 | 0,i,c=>trivial
 | n+1,i,c=>by
  unfold roB;by_cases hr:R < c.rd+1
  ·rw [if_pos hr];show (150:Nat)≠0;decide
  ·rw [if_neg hr];exact (hb _).bnd fun d=>ro_er hb n (i+1) _
mutual
theorem sfT_er:∀ (z:Tz) (c:Sf),ErR (sfT num M D R fu z c)
 | .mk k a s n ps l,c=>by
  unfold sfT;by_cases h6:k = 6\/k = 7
  ·rw [if_pos h6];trivial
  rw [if_neg h6];by_cases h10:k = 10
  ·rw [if_pos h10];exact (hd_er fun x nd=>q73 D c.kn x nd).bnd fun q=>trivial
  rw [if_neg h10];by_cases h8:k = 8\/k = 9
  ·rw [if_pos h8];refine (hd_er fun x nd=>q73 D c.kn x nd).bnd fun q=>?_
   by_cases h9:q.1=true/\k = 9
   ·rw [if_pos h9];show (130:Nat)≠0;decide
   ·rw [if_neg h9];trivial
  rw [if_neg h8];by_cases h11:k = 11
  ·rw [if_pos h11];have hi:ErR (n0B num c.kn l):=by
    cases l with
    | nil=>trivial
    | cons x l=>exact nu_er x
   have hj:ErR (n1B num c.kn l):=by
    cases l with
    | nil=>trivial
    | cons x l=>
     cases l with
     | nil=>trivial
     | cons y l=>exact nu_er y
   exact hi.bnd fun i=>hj.bnd fun j=>ro_er (fun d=>q3M 2 l d) _ _ c
  ·rw [if_neg h11];trivial
theorem q3M:∀ (i:Nat) (l:List Tz) (c:Sf),ErR (sfTs num M D R fu i l c)
 | _,[],c=>by unfold sfTs;trivial
 | 0,x :: l,c=>by
  unfold sfTs;exact (sfT_er x c).bnd fun d=>q3M 0 l d
 | i+1,x :: l,c=>by
  unfold sfTs;exact q3M i l c
end
end
end Fl
end Go.Proofs.YtcgibpdjfgjldaaGreatDoor
