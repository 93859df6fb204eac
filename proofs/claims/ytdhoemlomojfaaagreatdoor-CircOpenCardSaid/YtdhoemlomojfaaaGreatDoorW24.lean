/- DERIVED. FlLp. By an AI agent. -/
import Derived.Test.YtdhoemlomojfaaaGreatDoorW01
import Derived.Test.YtdhoemlomojfaaaGreatDoorW03
import Derived.Test.YtdhoemlomojfaaaGreatDoorW23
set_option maxRecDepth 100000
set_option maxHeartbeats 16000000
set_option linter.unusedVariables false
set_option linter.unusedSimpArgs false
namespace Go.Proofs.YtdhoemlomojfaaaGreatDoor.Fl
open Go Go.ChangeShapes Go.WideShapes Go.ChangeAt Go.RowKit Lx Args Pa Sh Go.Proofs.YtdhoemlomojfaaaGreatDoor.Nm
def lpR(fu:Fu)(a:Int)(s:Bs)(l:List Tz)(c:Sf):Rf Sf:=
 bndF (n0B worB c.kn l) fun i=>bndF (n1B worB c.kn l) fun j=>roB 2000 a s (fun d=>xTs fu 2 l d) (j.toNat - i.toNat) i c
def bdS(kn:Kw)(l:List Tz)(F:BitVec 32→BitVec 32→Rf Sf)(res:Rf Sf):Nat→BitVec 32→BitVec 32→Prop
 | 0,x0,x1=>x0 = 0∧x1 = 0∧(bndF (n0B worB kn l) fun i=>bndF (n1B worB kn l) fun j=>F i j)=res
 | 1,x0,x1=>x1 = 0∧(bndF (n1B worB kn l) fun j=>F x0 j)=res
 | _,x0,x1=>F x0 x1=res
theorem bdS_end{kn:Kw}{l:List Tz}{F:BitVec 32→BitVec 32→Rf Sf}{res:Rf Sf}{t:Nat}{x0 x1:BitVec 32}(h:bdS kn l F res t x0 x1)(ht:t=(l.take 2).length):F x0 x1=res:=by
 match l,ht with
 | [],ht=>
  have:t = 0:=ht;subst this;obtain ⟨rfl,rfl,h⟩:=h;exact h
 | [x],ht=>
  have:t = 1:=ht;subst this;obtain ⟨rfl,h⟩:=h;exact h
 | x :: y :: l,ht=>
  have:t = 2:=by rw [ht];simp
  subst this;exact h
theorem nu_some{kn:Kw}{z:Tz}{e:Int×Int×Bs}(h:strB (looB kn) z=some e):nuB worB kn z = .bad e.2.1 (badB kn e):=by unfold nuB;rw [h]
theorem nu_none{kn:Kw}{z:Tz}(h:strB (looB kn) z=none):nuB worB kn z = .ok (worB (looB kn) z):=by unfold nuB;rw [h]
theorem n0_at{kn:Kw}{l:List Tz}{y:Tz}(h:l[0]?=some y):n0B worB kn l=nuB worB kn y:=by
 match l,h with
 | x :: l,h=>
  have:x=y:=by simpa using h
  subst this;rfl
theorem n1_at{kn:Kw}{l:List Tz}{y:Tz}(h:l[1]?=some y):n1B worB kn l=nuB worB kn y:=by
 match l,h with
 | z :: x :: l,h=>
  have:x=y:=by simpa using h
  subst this;rfl
theorem bdS_bad{kn:Kw}{l:List Tz}{F:BitVec 32→BitVec 32→Rf Sf}{res:Rf Sf}{t:Nat}{x0 x1:BitVec 32}{y:Tz}{e:Int×Int×Bs}(h:bdS kn l F res t x0 x1)(ht:t < 2)(hy:l[t]?=some y)(he:strB (looB kn) y=some e):res = .bad e.2.1 (badB kn e):=by
 match t,ht with
 | 0,_=>
  obtain ⟨rfl,rfl,h⟩:=h;rw [←h,n0_at hy,nu_some he];rfl
 | 1,_=>
  obtain ⟨rfl,h⟩:=h;rw [←h,n1_at hy,nu_some he];rfl
theorem bdS_0{kn:Kw}{l:List Tz}{F:BitVec 32→BitVec 32→Rf Sf}{res:Rf Sf}{x0 x1:BitVec 32}{y:Tz}(h:bdS kn l F res 0 x0 x1)(hy:l[0]?=some y)(he:strB (looB kn) y=none):bdS kn l F res 1 (worB (looB kn) y) x1:=by
 obtain ⟨rfl,rfl,h⟩:=h;rw [n0_at hy,nu_none he] at h;exact ⟨rfl,h⟩
theorem bdS_1{kn:Kw}{l:List Tz}{F:BitVec 32→BitVec 32→Rf Sf}{res:Rf Sf}{x0 x1:BitVec 32}{y:Tz}(h:bdS kn l F res 1 x0 x1)(hy:l[1]?=some y)(he:strB (looB kn) y=none):bdS kn l F res 2 x0 (worB (looB kn) y):=by
 obtain ⟨rfl,h⟩:=h;rw [n1_at hy,nu_none he] at h;exact h
theorem blk_2{w:World}{g:Nat}{t:TypeId}{a b:Value}(H:Blk w g t #[a,b]):w.cell? ⟨g,0,none⟩=some a∧w.cell? ⟨g,1,none⟩=some b∧w.frozen? ⟨g,0,none⟩=false∧w.frozen? ⟨g,1,none⟩=false:=⟨H.cell 0,H.cell 1,H.frozen 0,H.frozen 1⟩
theorem nbzs_le_drop:∀ (i:Nat) (l:List Tz),nbzs (l.drop i)≤nbzs l
 | 0,l=>Nat.le_refl _
 | i+1,[]=>by simp
 | i+1,x :: l=>by
  rw [List.drop_succ_cons];have:=nbzs_le_drop i l;show nbzs (l.drop i)≤nbz x+nbzs l;omega
theorem loop_{w0:World}{fu:Fu}(ps:List Bs)(l:List Tz)(H:∀ y∈l,StAt w0 fu y)(w:World)(G:Gx)(vl:Value)(k0:Kw)(c:Sf)(fm:Kw)(m:Nat)(k a:Int)(s:Bs)(n:Nat)(A:Option Addr)(la cA:Nat)(B:Option Addr)(lb cB:Nat)(hG:CG w0 w G vl fu k0 c fm m)(hk:nbz (.mk k a s n ps l)≤134217728)(hm:m+nbz (.mk k a s n ps l)≤(c.rd+1) * 134217728)(hT:TrV w0 (.mk k a s n ps l) k a s n A la cA B lb cB)(hok:okSs fu 2 l) :
  Calls Tryz.prog 78 #[.pointer (some ⟨G.g,0,none⟩),nzA k a s n A la cA B lb cB] w (SP w0 w G vl fu k0 m c.rd (nbz (.mk k a s n ps l)) (lpR fu a s l c)):=by
 obtain ⟨-,-,-,-,rfl,rfl,hP,hs,-,-,-,-,-⟩:=hT.parts;obtain ⟨wn,hwn,hbn,hXn,hsn⟩:=a_box w (nB k a s n A l.length cA B ps.length cB);obtain ⟨⟨e0,e1,e2,e3,e4,e5⟩,z0,z1,z2,z3,z4,z5⟩:=Blk.c6 hXn;have HG0:=Hi hG;have HG:=Hi (hG.below hbn);have HXN:=Hi hXn;have HUN:=Hi (Upd.of_below hbn (fun _=>False));have HSN:=Hi hsn;have HW:=Hi hwn;have HOK:=Hi hok;have HH:=Hi H;have HS:=Hi hs;have hnb:nbz (.mk k a s n ps l)=ps.length+1+nbzs l:=rfl;have HNB:=Hi hnb;have HK:=Hi hk;have HM:=Hi hm;have HCU:=Hi (cutL wn 2 hP (by decide));obtain ⟨res,hres⟩:∃ res,lpR fu a s l c=res:=⟨_,rfl⟩;rw [hres];have HRES:=Hi (show bdS c.kn l (fun i j=>roB 2000 a s (fun d=>xTs fu 2 l d) (j.toNat - i.toNat) i c) res 0 0 0 from ⟨rfl,rfl,hres⟩);obtain ⟨cost,hcost⟩:∃ cost,nbz (.mk k a s n ps l)=cost:=⟨_,rfl⟩;rw [hcost] at HNB HK HM ⊢;clear hG hk hm hT hok H hP hs hwn hbn hXn hsn hres hnb hcost;go_enter Tryz.func78,Tryz.ntmps78;go_upto_region 1 with fail
 rw [HW.out];go_wp2_with fail
 refine (show Calls Tryz.prog 58 #[.slice A l.length cA,.int .i64 2] wn _ from HCU.out).mono ?_;rintro e w1 ⟨l1,l2,A1,c1,A2,c2,h1,h2,rfl,hP1,hP2,hb1⟩;obtain ⟨w2,hw2⟩:∃ u,w1.alloc (.cells #[.int .u32 0,.int .u32 0] 159)=u:=⟨_,rfl⟩;have hb2:Below w1.heap.size w1 w2:=by rw [←hw2];exact (Below.refl _ _).alloc (Nat.le_refl _) _
 have hX2:Blk w2 w1.heap.size 159 #[.int .u32 0,.int .u32 0]:=by rw [←hw2];exact Blk.new _ _ _
 have hb12:=hb1.trans (hb2.mono hb1.size);obtain ⟨ab,hab⟩:∃ ab,w1.heap.size=ab:=⟨_,rfl⟩;rw [hab] at hX2;have HG2:=Hi (HG.out.below hb12);have HXN2:=Hi (HXN.out.below hb12 HXN.out.lt);have HU2:=Hi (HUN.out.trans (Upd.of_below hb12 _));have HX2:=Hi (show Blk w2 ab 159 #[uV 0,uV 0] from hX2);have HAB:=Hi (show w.heap.size < ab from by have:=hb1.size;have:=HSN.out;omega);have HL1:=Hi h1;have HL2:=Hi h2;have HP1:=Hi hP1;have HP2:=Hi hP2;have HW2:=Hi hw2;have hl1m:l1.length≤9223372036854775807:=Nat.le_trans hP1.le hP1.cap;have HL12:=Hi (show l1.length≤2 from by rw [h1,List.length_take];omega);have HAE:=Hi hab;clear h1 h2 hP1 hP2 hb1 hw2 hb2 hX2 hb12 HCU e0 e1 e2 e3 e4 e5 z0 z1 z2 z3 z4 z5;go_upto_region 3 with fail
 rw [HW2.out];clear hab;go_wp2_with fail
 go_loopw [18] (fun vi wr=>∃ (t:Nat) (x0 x1:BitVec 32),t≤l1.length∧vi = .int .i64 (t:Int)∧Hid (CG w0 wr G vl fu k0 c fm m)∧Hid (Blk wr w.heap.size 62 (nB k a s n A l.length cA B ps.length cB))∧Hid (Blk wr ab 159 #[uV x0,uV x1])∧Hid (Upd (fun _=>False) w wr)∧Hid (bdS c.kn l (fun i j=>roB 2000 a s (fun d=>xTs fu 2 l d) (j.toNat - i.toNat) i c) res t x0 x1)) (fun vi _=>l1.length - (intOf vi).toNat)
 case atStart=>exact ⟨0,0,0,by omega,rfl,HG2,HXN2,HX2,HU2,HRES⟩
 case round=>
  obtain ⟨t,x0,x1,hi,rfl,HGr,HXr,HAr,HUr,HBS⟩:=hrel;by_cases hlt:t < l1.length
  ·obtain ⟨y,hy⟩:∃ y,l1[t]?=some y:=⟨_,List.getElem?_eq_getElem hlt⟩;have hyl:l[t]?=some y:=by
    have h:=hy;rw [HL1.out] at h;rw [List.getElem?_take] at h;have:=HL12.out
    rwa [if_pos (by omega)] at h
   obtain ⟨bb,oo,k',a',s',n',A',la',cA',B',lb',cB',hA,hTy,hbl,g0',g1,g2,g3,g4,g5⟩:=HP1.out.at_ HGr.out.bel hy;subst hA;obtain ⟨wb,hwb,hbb,hXb,hsb⟩:=a_box wr (nB k' a' s' n' A' la' cA' B' lb' cB');have hdr:Below wb.heap.size wb wb.drew:=Below.drew (Below.refl _ _);obtain ⟨wd,hwd⟩:∃ u,wb.drew=u:=⟨_,rfl⟩;rw [hwd] at hdr;have hbd:=hbb.trans (hdr.mono hbb.size);have HPd:=Hi (hXb.below hdr hXb.lt);have HGd:=Hi (HGr.out.below hbd);have HXd:=Hi (HXr.out.below hbd HXr.out.lt);have HAd:=Hi (HAr.out.below hbd HAr.out.lt);have HUd:=Hi (HUr.out.trans (Upd.of_below hbd _));obtain ⟨⟨e0,e1,e2,e3,e4,e5⟩,z0,z1,z2,z3,z4,z5⟩:=Blk.c6 hXb;have HWB:=Hi hwb;have HWD:=Hi hwd;have HTY:=Hi hTy;have HYL:=Hi hyl;have hbl2:bb < wr.heap.size:=Nat.lt_of_lt_of_le hbl HGr.out.bel.size;have HPB:=Hi (show ab < wr.heap.size from HAr.out.lt);have hil:(t:Int) < (l1.length:Int):=by omega
   have HMU:=Hi (mustBe (w0:=w0) (b:=G.kb) (q:=m) (kn:=c.kn) wd y k' a' s' n' A' la' cA' B' lb' cB' HGd.out.bel HGd.out.kno hTy);obtain ⟨r2,hr2⟩:∃ r2,strB (looB c.kn) y=r2:=⟨_,rfl⟩;rw [hr2] at HMU;have HR2:=Hi hr2;clear hwb hbb hXb hTy hy hyl hsb hdr hwd hbd hr2;go_upto_region 6 with fail
   rw [HWB.out];have hwd:=HWD.out;clear e0 e1 e2 e3 e4 e5 z0 z1 z2 z3 z4 z5 HWD;have hZ0:Below wd.heap.size wd wd:=Below.refl _ _;refine HT.wp_region (Z:=fun w'=>Below wd.heap.size wd w') (S:=fun _=>True) (st:=[]) (by kernel_rfl) ?_;rw [hwd];clear hwd;refine HT.tk 0 rfl (by intro v hSw;have hA:=HPd.out.below hSw HPd.out.lt;have E_:=Blk.c6 hA;have hga:=hA.lt;clear hSw hA;go_simp;try with_reducible rfl) hZ0 HT.tr ?_;refine HT.tm 1 rfl hZ0 HT.tr ?_;refine HT.tm 2 rfl hZ0 HT.tr ?_;refine HT.tm 3 rfl hZ0 HT.tr ?_;refine HT.tk 4 rfl (by intro v hSw;have hA:=HGd.out.blk.below hSw HGd.out.blk.lt;obtain ⟨q0,q1,q2,q3,q4,q5,q6⟩:=Blk.c7 hA;have hga:=hA.lt;clear hSw hA;go_simp;try with_reducible rfl) hZ0 HT.tr ?_;refine HT.one (i:=5) (by kernel_rfl) rfl (fun K hK=>?_);go_simp;refine (show Calls Tryz.prog 91 #[nzA k' a' s' n' A' la' cA' B' lb' cB',.map (some G.kb)] wd _ from HMU.out).mono ?_;intro e w4 h4;cases r2 with
   | some r2=>
    obtain ⟨rfl,hb4⟩:=h4;have HEND:=Hi (show SP w0 w G vl fu k0 m c.rd cost res (panF r2.2.1 (badB c.kn r2)) w4 from by
     rw [bdS_bad HBS.out (by have:=HL12.out;omega) HYL.out HR2.out];exact ⟨rfl,(HUd.out.trans (Upd.of_below hb4 _)).mono fun _ h=>h.elim⟩)
    exact ⟨rfl,HEND.out⟩
   | none=>
    obtain ⟨rfl,hb4⟩:=h4;(try dsimp only);refine hK.out _ _ hb4 trivial ?_;clear hK K;(try simp only [HT.pS]);refine HT.done (by kernel_rfl) ?_;have hdr:Below w4.heap.size w4 w4.drew:=Below.drew (Below.refl _ _);obtain ⟨wy,hwd⟩:∃ u,w4.drew=u:=⟨_,rfl⟩;rw [hwd] at hdr;have hbd:=hb4.trans (hdr.mono hb4.size);have HPy:=Hi (HPd.out.below hbd HPd.out.lt);have HGy:=Hi (HGd.out.below hbd);have HXy:=Hi (HXd.out.below hbd HXd.out.lt);have HAy:=Hi (HAd.out.below hbd HAd.out.lt);have HUy:=Hi (HUd.out.trans (Upd.of_below hbd _));have HWO:=Hi (worth (w0:=w0) (b:=G.kb) (q:=m) (kn:=c.kn) (SizeOf.sizeOf y+1) y (Nat.lt_succ_self _) wy k' a' s' n' A' la' cA' B' lb' cB' HGy.out.bel HGy.out.kno HTY.out HR2.out);have hmf:∀ (fn:Fn) (first cap:Array Value) (w:World),(Instr.makeFunc fn first cap).run Tryz.prog w = .ok (.func fn first cap) w:=fun _ _ _ _=>rfl
    have HNA:=Hi (show ¬ wr.heap.size=ab from by have:=HPB.out;omega);have HNG:=Hi (show ¬ G.g=ab from by have:=HG0.out.lt _ (.inl rfl);have:=HAB.out;omega);have HWD:=Hi hwd;clear hZ0 hb4 hdr hbd hwd;have hbs:=HBS.out;have hyl:=HYL.out;have ht2:t = 0∨t = 1:=by have:=HL12.out;omega
    have hst:=HR2.out;rcases ht2 with rfl | rfl
    ·have hbs2:=bdS_0 hbs hyl hst;clear hbs hyl hst;go_wp2_with fail
     have hwd:=HWD.out;generalize worB (looB c.kn) y=x2 at HWO hbs2;have HB2:=Hi hbs2;clear hbs2 HWD;have hZ0:Upd (fun b=>b=ab) wy wy:=Upd.refl _ _;refine HT.wp_region (Z:=fun w'=>Upd (fun b=>b=ab) wy w') (S:=fun _=>True) (st:=[]) (by kernel_rfl) ?_;rw [hwd];clear hwd;refine HT.tm 0 rfl hZ0 HT.tr ?_;refine HT.tk 1 rfl (by intro v hSw;have hA:=HPy.out.upd hSw HNA.out;have E_:=Blk.c6 hA;have hga:=hA.lt;clear hSw hA;go_simp;try with_reducible rfl) hZ0 HT.tr ?_;refine HT.tm 2 rfl hZ0 HT.tr ?_;refine HT.tm 3 rfl hZ0 HT.tr ?_;refine HT.tm 4 rfl hZ0 HT.tr ?_;refine HT.tk 5 rfl (by intro v hSw;have hA:=HGy.out.blk.upd hSw HNG.out;obtain ⟨q0,q1,q2,q3,q4,q5,q6⟩:=Blk.c7 hA;have hga:=hA.lt;clear hSw hA;go_simp;try with_reducible rfl) hZ0 HT.tr ?_;refine HT.tm 6 rfl hZ0 HT.tr ?_;refine HT.one (i:=7) (by kernel_rfl) rfl (fun K hK=>?_);go_simp;refine (show Calls Tryz.prog 92 #[nzA k' a' s' n' A' la' cA' B' lb' cB',nuV G.kb] wy _ from HWO.out).mono ?_;rintro e w6 ⟨rfl,hb6⟩;have hz6:Upd (fun b=>b=ab) wy w6:=Upd.of_below hb6 _;(try dsimp only);refine hK.out _ _ hz6 trivial ?_;clear hK K;(try simp only [HT.pS]);refine HT.tk 8 rfl (by intro v hSw;have hA:=(HAy.out.below hb6 HAy.out.lt).lt;clear hSw;go_simp;try with_reducible rfl) hz6 HT.tr ?_;have hA6:=HAy.out.below hb6 HAy.out.lt;obtain ⟨d0,d1,f0,f1⟩:=blk_2 hA6;have hga:=hA6.lt;have hz7:Upd (fun b=>b=ab) wy (w6.setCell ⟨ab,0,none⟩ (uV x2)):=hz6.setCell (p:=⟨ab,0,none⟩) (fun _=>rfl) _;have hus:Upd (fun b=>b=ab) w6 (w6.setCell ⟨ab,0,none⟩ (uV x2)):=(Upd.refl (fun b=>b=ab) w6).setCell (p:=⟨ab,0,none⟩) (fun _=>rfl) _;have H1:=Hi ((HGy.out.below hb6).far1 hus (fun h=>by have:=HG0.out.lt _ h;have:=HAB.out;omega) (by obtain ⟨mf,hf⟩:=HG0.out.fun_;have:=hf.lt;have:=HAB.out;omega) (by have:=HG0.out.bel.size;have:=HAB.out;omega));have H2:=Hi ((HXy.out.below hb6 HXy.out.lt).upd hus (by have:=HAB.out;omega));have H3:=Hi (show Blk _ ab 159 #[uV x2,uV x1] from hA6.set 0 (uV x2));have H4:=Hi (upd_new (HUy.out.trans (Upd.of_below hb6 _)) (show w.heap.size≤ab from Nat.le_of_lt HAB.out) hus);refine HT.one (i:=9) (by kernel_rfl) rfl (fun K hK=>?_);go_simp;(try dsimp only);refine hK.out _ _ hz7 trivial ?_;clear hK K;(try simp only [HT.pS]);refine HT.done (by kernel_rfl) ?_;clear hZ0 hz6 hz7 hus hb6 hA6 d0 d1 f0 f1 hga hmf;go_wp2_with fail
     go_roundw
     case rel=>exact ⟨0+1,x2,x1,by omega,by first | rfl | go_num,H1,H2,H3,H4,HB2⟩
     case measure=>simp [intOf];omega
    ·have hbs2:=bdS_1 hbs hyl hst;clear hbs hyl hst;go_wp2_with fail
     have hwd:=HWD.out;generalize worB (looB c.kn) y=x2 at HWO hbs2;have HB2:=Hi hbs2;clear hbs2 HWD;have hZ0:Upd (fun b=>b=ab) wy wy:=Upd.refl _ _;refine HT.wp_region (Z:=fun w'=>Upd (fun b=>b=ab) wy w') (S:=fun _=>True) (st:=[]) (by kernel_rfl) ?_;rw [hwd];clear hwd;refine HT.tm 0 rfl hZ0 HT.tr ?_;refine HT.tk 1 rfl (by intro v hSw;have hA:=HPy.out.upd hSw HNA.out;have E_:=Blk.c6 hA;have hga:=hA.lt;clear hSw hA;go_simp;try with_reducible rfl) hZ0 HT.tr ?_;refine HT.tm 2 rfl hZ0 HT.tr ?_;refine HT.tm 3 rfl hZ0 HT.tr ?_;refine HT.tm 4 rfl hZ0 HT.tr ?_;refine HT.tk 5 rfl (by intro v hSw;have hA:=HGy.out.blk.upd hSw HNG.out;obtain ⟨q0,q1,q2,q3,q4,q5,q6⟩:=Blk.c7 hA;have hga:=hA.lt;clear hSw hA;go_simp;try with_reducible rfl) hZ0 HT.tr ?_;refine HT.tm 6 rfl hZ0 HT.tr ?_;refine HT.one (i:=7) (by kernel_rfl) rfl (fun K hK=>?_);go_simp;refine (show Calls Tryz.prog 92 #[nzA k' a' s' n' A' la' cA' B' lb' cB',nuV G.kb] wy _ from HWO.out).mono ?_;rintro e w6 ⟨rfl,hb6⟩;have hz6:Upd (fun b=>b=ab) wy w6:=Upd.of_below hb6 _;(try dsimp only);refine hK.out _ _ hz6 trivial ?_;clear hK K;(try simp only [HT.pS]);refine HT.tk 8 rfl (by intro v hSw;have hA:=(HAy.out.below hb6 HAy.out.lt).lt;clear hSw;go_simp;try with_reducible rfl) hz6 HT.tr ?_;have hA6:=HAy.out.below hb6 HAy.out.lt;obtain ⟨d0,d1,f0,f1⟩:=blk_2 hA6;have hga:=hA6.lt;have hz7:Upd (fun b=>b=ab) wy (w6.setCell ⟨ab,1,none⟩ (uV x2)):=hz6.setCell (p:=⟨ab,1,none⟩) (fun _=>rfl) _;have hus:Upd (fun b=>b=ab) w6 (w6.setCell ⟨ab,1,none⟩ (uV x2)):=(Upd.refl (fun b=>b=ab) w6).setCell (p:=⟨ab,1,none⟩) (fun _=>rfl) _;have H1:=Hi ((HGy.out.below hb6).far1 hus (fun h=>by have:=HG0.out.lt _ h;have:=HAB.out;omega) (by obtain ⟨mf,hf⟩:=HG0.out.fun_;have:=hf.lt;have:=HAB.out;omega) (by have:=HG0.out.bel.size;have:=HAB.out;omega));have H2:=Hi ((HXy.out.below hb6 HXy.out.lt).upd hus (by have:=HAB.out;omega));have H3:=Hi (show Blk _ ab 159 #[uV x0,uV x2] from hA6.set 1 (uV x2));have H4:=Hi (upd_new (HUy.out.trans (Upd.of_below hb6 _)) (show w.heap.size≤ab from Nat.le_of_lt HAB.out) hus);refine HT.one (i:=9) (by kernel_rfl) rfl (fun K hK=>?_);go_simp;(try dsimp only);refine hK.out _ _ hz7 trivial ?_;clear hK K;(try simp only [HT.pS]);refine HT.done (by kernel_rfl) ?_;clear hZ0 hz6 hz7 hus hb6 hA6 d0 d1 f0 f1 hga hmf;go_wp2_with fail
     go_roundw
     case rel=>exact ⟨1+1,x0,x2,by omega,by first | rfl | go_num,H1,H2,H3,H4,HB2⟩
     case measure=>simp [intOf];omega
  ·obtain rfl:t=l1.length:=by omega
   have hend:=bdS_end HBS.out (by rw [HL1.out]);have HEQ:=Hi (show roB 2000 a s (fun d=>xTs fu 2 l d) (x1.toNat - x0.toNat) x0 c=res from hend);obtain ⟨d0,d1,f0,f1⟩:=blk_2 HAr.out;have hga:=HAr.out.lt;have HMX:=Hi (Nat.le_refl m);obtain ⟨wS,hwS⟩:∃ wS,wr=wS:=⟨_,rfl⟩;have HSZ:=Hi (show wr.heap.size=wS.heap.size from by rw [hwS]);have HSA:=Hi (show ab < wS.heap.size from by rw [←hwS];exact HAr.out.lt);have HUS:=Hi (show w.heap.size≤wS.heap.size from by rw [←hwS];exact HUr.out.size);have HU0:=Hi (HUr.out.mono (Y:=ow G vl) fun _ h=>h.elim);clear hend hwS HBS;go_wp2_with fail
   go_loopw [9] (fun v9 wr=>∃ (i:BitVec 32) (ci:Sf) (vli:Value) (fmi:Kw) (mi:Nat),v9=uV i∧Hid (CG w0 wr G vli fu k0 ci fmi mi)∧Hid (Nw vl vli wS∧wS.heap.size≤wr.heap.size)∧Hid (Upd (ow G vl) w wr)∧Hid (Blk wr w.heap.size 62 (nB k a s n A l.length cA B ps.length cB))∧Hid (Blk wr ab 159 #[uV x0,uV x1])∧Hid (mi+c.rd * 134217728≤m+ci.rd * 134217728∧c.rd≤ci.rd)∧Hid (roB 2000 a s (fun d=>xTs fu 2 l d) (x1.toNat - i.toNat) i ci=res)) (fun v9 _=>x1.toNat - (intOf v9).toNat)
   case atStart=>exact ⟨x0,c,vl,fm,m,rfl,HGr,Hi ⟨Nw.refl _ _,by rw [HSZ.out];exact Nat.le_refl _⟩,HU0,HXr,HAr,Hi ⟨Nat.le_refl _,Nat.le_refl _⟩,HEQ⟩
   case round=>
    obtain ⟨i,ci,vli,fmi,mi,rfl,HGq,HNW,HUq,HXq,HAq,HBQ,HQ⟩:=hrel;clear d0 d1 f0 f1 hga;obtain ⟨d0,d1,f0,f1⟩:=blk_2 HAq.out;have hga:=HAq.out.lt;obtain ⟨q0,q1,q2,q3,q4,q5,q6⟩:=Blk.c7 HGq.out.blk;have f4:=HGq.out.blk.frozen 4;have hgg:=HGq.out.blk.lt;have hNO:∀ b,b < wS.heap.size→w.heap.size≤b→¬ ow G vli b:=fun b hb hlo h=>by
     have h1:=ow_nw HNW.out.1 b h hb;have:=HG0.out.lt b h1;omega
    have HN1:=Hi (hNO ab HSA.out (Nat.le_of_lt HAB.out));have HN2:=Hi (hNO w.heap.size (by have:=HSA.out;have:=HAB.out;omega) (Nat.le_refl _));clear hNO;by_cases hij:i.toNat < x1.toNat
    ·have hij':(i.toNat:Int) < (x1.toNat:Int):=by omega
     obtain ⟨nn,hnn⟩:∃ nn,x1.toNat - i.toNat=nn+1:=⟨x1.toNat - i.toNat - 1,by omega⟩;have hq:=HQ.out;rw [hnn] at hq;unfold roB at hq;have hrd0:(0:Int)≤(ci.rd:Int):=by omega
     have hrd1:(ci.rd:Int)≤2000:=by have:=HGq.out.rdb;omega
     obtain ⟨w6,hw6⟩:∃ u,wr.setCell ⟨G.g,4,none⟩ (.int .i64 ((ci.rd:Int)+1))=u:=⟨_,rfl⟩;have hu6:Upd (fun b=>b=G.g) wr w6:=by rw [←hw6];exact (Upd.refl (fun b=>b=G.g) wr).setCell (p:=⟨G.g,4,none⟩) (fun _=>rfl) _
     have hB6:Blk w6 G.g 97 (gxA G vli ((ci.rd:Int)+1) ci.nd 0):=by rw [←hw6];exact HGq.out.blk.set 4 _
     have hngn:¬ w.heap.size=G.g:=fun h=>HN2.out (.inl h)
     have hnga:¬ ab=G.g:=fun h=>HN1.out (.inl h)
     have hX6:=HXq.out.upd hu6 hngn;have HW6:=Hi hw6;have HX6:=Hi hX6;have HA6:=Hi (HAq.out.upd hu6 hnga);have HU6:=Hi hu6;obtain ⟨p0,p1,p2,p3,p4,p5,p6⟩:=Blk.c7 hB6;have hg6:=hB6.lt;by_cases hbig:2000 < ci.rd+1
     ·have hbig':(2000:Int) < (ci.rd:Int)+1:=by omega
      rw [if_pos hbig] at hq;have HEND:=Hi (show SP w0 w G vl fu k0 m c.rd cost res (panF a 150) w6 from by
       rw [←hq];exact ⟨rfl,HUq.out.trans (hu6.mono fun b hb=>.inl hb)⟩)
      obtain ⟨⟨e0,e1,e2,e3,e4,e5⟩,z0,z1,z2,z3,z4,z5⟩:=Blk.c6 hX6;have hgx:=hX6.lt;clear hq hbig hw6 hu6 hB6 hX6 hngn hnga hnn;go_upto_region 13 with fail
      rw [HW6.out];clear d0 d1 f0 f1 q0 q1 q2 q3 q4 q5 q6 f4 hgg;go_wp2_with fail
      exact ⟨rfl,HEND.out⟩
     ·have hbig':¬ (2000:Int) < (ci.rd:Int)+1:=by omega
      rw [if_neg hbig] at hq;have hG6:=HGq.out.box hu6 (rd:=ci.rd+1) (nd:=ci.nd) (by push_cast;exact hB6) (by omega);have hb1:=HBQ.out.1;have hb2:=HBQ.out.2;have hmm:=HM.out;have hkk:=HK.out;have hnb:=HNB.out;have hd2:nbzs l2≤nbzs l:=by rw [HL2.out];exact nbzs_le_drop 2 l
      have HRO:=Hi (round_ l2 (fun y hy=>HH.out y (List.mem_of_mem_drop (by rw [HL2.out] at hy;exact hy))) w6 G vli k0 { ci with rd:=ci.rd+1,nd:=ci.nd } fmi mi s HS.out i A2 c2 hG6 (by omega) (by show mi+1+nbzs l2≤(ci.rd+1+1) * 134217728;omega) HP2.out (by rw [HL2.out];exact okSs_drop 2 HOK.out));obtain ⟨r3,hr3⟩:∃ r3,rndR fu s i l2 { ci with rd:=ci.rd+1,nd:=ci.nd }=r3:=⟨_,rfl⟩;rw [hr3] at HRO;have hq2:bndF r3 (fun d=>roB 2000 a s (fun d=>xTs fu 2 l d) nn (i+1) d)=res:=by
       rw [←hr3,←hq];unfold rndR;rw [bnd_assoc,HL2.out,←xTs_drop fu 2 l];rfl
      have HQ2:=Hi hq2;obtain ⟨⟨e0,e1,e2,e3,e4,e5⟩,z0,z1,z2,z3,z4,z5⟩:=Blk.c6 hX6;have hgx:=hX6.lt;have HNN:=Hi hnn;have HRDB:=Hi (show ci.rd+1≤2000 from by omega);clear hq hq2 hbig hw6 hu6 hB6 hX6 hngn hnga hG6 hb1 hb2 hmm hkk hnb hd2 hr3 hnn;go_upto_region 13 with fail
      rw [HW6.out];clear d0 d1 f0 f1 q0 q1 q2 q3 q4 q5 q6 f4 hgg;go_wp2_with fail
      refine (show Calls Tryz.prog 94 #[.pointer (some ⟨G.g,0,none⟩),.string ⟨s.toArray⟩,uV i,.slice A2 l2.length c2] w6 _ from HRO.out).mono ?_;intro e w7 h7;clear e0 e1 e2 e3 e4 e5 z0 z1 z2 z3 z4 z5 p0 p1 p2 p3 p4 p5 p6 hgx hg6;have hu16:Upd (ow G vl) w w6:=HUq.out.trans (HU6.out.mono fun b hb=>.inl hb);have hnw6:∀ b,ow G vli b→b < w.heap.size→ow G vl b:=fun b hb hlt=>ow_nw HNW.out.1 b hb (by have:=HUS.out;omega)
      cases r3 with
      | bad a2 er2=>
       obtain ⟨rfl,hu7⟩:=h7;have HEND:=Hi (show SP w0 w G vl fu k0 m c.rd cost res (panF a2 er2) w7 from by
        rw [←show Rf.bad a2 er2=res from HQ2.out];exact ⟨rfl,upd_then hu16 hu7 hnw6⟩)
       clear hu7 hu16 hnw6;go_wp2_with fail
       exact ⟨rfl,HEND.out⟩
      | ok d=>
       obtain ⟨rfl,vl7,fm7,m7,hG7,hN7,hu7,hb7,hrd7⟩:=h7;have hs67:=hu7.size;have hsq:=HNW.out.2;have hs6:=HU6.out.size;have H1:=Hi hG7;have H2:=Hi (show Nw vl vl7 wS∧wS.heap.size≤w7.heap.size from ⟨HNW.out.1.trans (by omega) hN7,by omega⟩);have H3:=Hi (upd_then hu16 hu7 hnw6);have H4:=Hi (HX6.out.upd hu7 HN2.out);have H5:=Hi (HA6.out.upd hu7 HN1.out);have H6:=Hi (show m7+c.rd * 134217728≤m+d.rd * 134217728∧c.rd≤d.rd from by
        have h1:=HBQ.out.1;have h2:=HBQ.out.2;have h3:=HK.out;have h4:=HNB.out;have h5:nbzs l2≤nbzs l:=by rw [HL2.out];exact nbzs_le_drop 2 l
        have h6:m7+(ci.rd+1) * 134217728≤mi+(1+nbzs l2)+d.rd * 134217728:=hb7;have h7:ci.rd+1≤d.rd:=hrd7;omega)
       have hi1:(i+1).toNat=i.toNat+1:=by
        have:=x1.isLt;rw [BitVec.toNat_add];show (i.toNat+1) % 4294967296=_;omega
       have H7:=Hi (show roB 2000 a s (fun d=>xTs fu 2 l d) (x1.toNat - (i+1).toNat) (i+1) d=res from by
        rw [hi1,show x1.toNat - (i.toNat+1)=nn from by have:=HNN.out;omega];exact HQ2.out)
       have HI1:=Hi hi1;have hib:i.toNat+1 < 4294967296:=by have:=x1.isLt;omega
       clear hG7 hN7 hu7 hb7 hrd7 hu16 hnw6 hs67 hsq hs6 hi1;go_wp2_with fail
       go_roundw
       case rel=>
        refine ⟨i+1,d,vl7,fm7,m7,?_,H1,H2,H3,H4,H5,H6,H7⟩;show Value.int .u32 _ = .int .u32 (((i+1).toNat:Nat):Int);rw [HI1.out]
        first | (push_cast;rfl) | (congr 1;omega)
       case measure=>
        simp [intOf];omega
    ·have hij':¬ (i.toNat:Int) < (x1.toNat:Int):=by omega
     have hq:=HQ.out;rw [show x1.toNat - i.toNat = 0 by omega] at hq;unfold roB at hq;have HEND:=Hi (show SP w0 w G vl fu k0 m c.rd cost res (.returned (.tuple #[])) wr from by
      rw [←hq];have hb:=HBQ.out;refine ⟨rfl,vli,fmi,mi,HGq.out,?_,HUq.out,by omega,hb.2⟩;rcases HNW.out.1 with h | ⟨n,h3,h4⟩
      ·exact .inl h
      ·exact .inr ⟨n,Nat.le_trans HUS.out h3,h4⟩)
     clear hq;go_wp2_with fail
     first | go_end0 | skip
     all_goals first | exact HEND.out | exact bodyPost_ret (results_none rfl _ _ _) rfl HEND.out
end Go.Proofs.YtdhoemlomojfaaaGreatDoor.Fl
