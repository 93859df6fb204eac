/- DERIVED. RqFo. By an AI agent. -/
import Derived.Test.YtcgibpdjfgjldaaGreatDoorR36
import Derived.Test.YtcgibpdjfgjldaaGreatDoorR22
set_option maxRecDepth 100000
set_option maxHeartbeats 8000000
set_option linter.unusedVariables false
set_option linter.unusedSimpArgs false
open Go Go.ChangeShapes Go.WideShapes Go.ChangeAt Go.RowKit
namespace Go.Proofs.YtcgibpdjfgjldaaGreatDoor
namespace Pq
open Lx Args Pa
section
attribute [local go_sem] bH bI bJ
def InQ(n:Nat):Prop:=∀ (w:World) (bp d:Nat) (l:List Tk),l.length<=n->QS w bp l 0 0->Gt l ->
 Calls Tryz.prog 57 #[.pointer (some ⟨bp,0,none⟩),.int .i64 (d:Int)] w (AU w bp l (Rd ag .inner d l))
def FeK(a:Nat)(s:Bs):List Tr->List Tk->OO:=fun zs r=>some (.ok [.mk 11 a s 0 [] zs] r)
def IsK(d:Nat)(zs:List Tr)(G:List Tr->List Tk->OO)(f:Nat)(l:List Tk):OO:=bnd (pF ag f (.aM zs) d l) G
theorem AY.two{e:TypeId}{lo:Nat}{w1:World}{x y:Tr}{cs ds:List Value}(hx:Ak (fun b=>lo<=b) w1 x cs)(hy:Ak (fun b=>lo<=b) w1 y ds)(hlo:lo<=w1.heap.size):AY e lo (w1.alloc (.cells (cs ++ ds).toArray e)) w1.heap.size 2 [x,y]:=by
 refine ⟨[cs,ds],?_,?_⟩
 ·have:=q11 w1 hlo e 6 2 (cs ++ ds) (by rw [List.length_append,q3i hx,q3i hy]) V2;simpa using this
 ·have h1:=q12 (hx.mono (N':=fun b=>lo<=b/\b≠w1.heap.size) fun b hb hs=>⟨hb,V0⟩);have h2:=q12 (hy.mono (N':=fun b=>lo<=b/\b≠w1.heap.size) fun b hb hs=>⟨hb,V0⟩);exact (q1R h1 h2).upd ((Upd.refl (fun _=>False) w1).alloc _) (fun _ _ h=>h)
def FqI(w:World)(bp d a n0:Nat)(s:Bs)(E:Out->Prop)(n g c:Nat)(W:World):Prop:=
 (∃ l zs,n=zs.length/\QS W bp l 0 0/\Gt l/\zs.length+l.length<=n0+2/\l.length<=n0/\AY 26 (w.heap.size+1) W g c zs/\∀ o,Ev (IsK d zs (FeK a s) · l) o->E o)\/(∃ ba er t r,er≠0/\E (.bad ba er)/\QS W bp (t :: r) ba er)
theorem is_end{d:Nat}{zs:List Tr}{v:Tk}{r:List Tk}(hv:ak [125] v=true)(a:Nat)(s:Bs):Ev (IsK d zs (FeK a s) · (v :: r)) (.ok [.mk 11 a s 0 [] zs] r):=q0x (K:=fun _ zs r=>FeK a s zs r) (q2m (num:=ag) hv) (q0a _)
theorem is_go{d:Nat}{zs xs:List Tr}{v:Tk}{r r':List Tk}{a:Nat}{s:Bs}{o:Out}(hv:ak [125] v=false)(h:Rd ag .inner (d+1) (v :: r) (.ok xs r'))(h2:Ev (IsK d (zs ++ xs) (FeK a s) · r') o):Ev (IsK d zs (FeK a s) · (v :: r)) o:=by
 obtain ⟨g1,h1⟩:=h;obtain ⟨g2,h2⟩:=h2;refine ⟨max g1 g2+1,fun f hf=>?_⟩;obtain ⟨k,rfl⟩:∃ k,f=k+1:=⟨f - 1,V0⟩;have e1:=h1 k V0;have e2:=h2 k V0;have e2':bnd (pF ag k (.aM (zs ++ xs)) d r') (FeK a s)=some o:=e2;show bnd (pF ag (k+1) (.aM zs) d (v :: r)) (FeK a s)=some o;have:pF ag (k+1) (.aM zs) d (v :: r)=bnd (pF ag k .inner (d+1) (v :: r)) fun xs r'=>pF ag k (.aM (zs ++ xs)) d r':=by
  conv=>lhs;unfold pF
  simp only;rw [if_neg (by rw [hv];decide)]
 rw [this];have e1':pF ag k .inner (d+1) (v :: r)=some (.ok xs r'):=e1;rw [e1'];exact e2'
theorem is_bad{d:Nat}{zs:List Tr}{v:Tk}{r:List Tk}{a b e:Nat}{s:Bs}(hv:ak [125] v=false)(h:Rd ag .inner (d+1) (v :: r) (.bad b e)):Ev (IsK d zs (FeK a s) · (v :: r)) (.bad b e):=q0X (K:=fun _ zs r=>FeK a s zs r) (q2n hv h)
theorem in_for{n:Nat}(H:InQ n)(w:World)(bp d:Nat)(t:Tk)(r:List Tk)(hn:r.length<=n)(hp:QS w bp (t :: r) 0 0)(hg:Gt (t :: r))(hd:d<=60)(hf:ak [102,111,114] t=true) :
  Calls Tryz.prog 57 #[.pointer (some ⟨bp,0,none⟩),.int .i64 (d:Int)] w (AU w bp (t :: r) (Rd ag .inner d (t :: r))):=by
 obtain ⟨i0,hi,hz⟩:=Option.map_eq_some_iff.1 infoNd;have hz0:=congrArg (·.1) hz;have hz1:=congrArg (·.2.1) hz;have hz2:=congrArg (·.2.2) hz;have HI:=Hi hi;have HZ0:=Hi hz0;have HZ1:=Hi hz1;have HZ2:=Hi hz2;clear hi hz hz0 hz1 hz2;obtain ⟨w0,hw0,hb0,hB⟩:=q04 w;have hlt:=hp.lt;have hfw:=hg.few;simp only [List.length_cons] at hfw;have HT:=Hi (tok w0 bp 0 0 t r (hp.below hb0));have Bb:=Hi (hp.below hb0);have HGR:=Hi (hg.tail (q1o hf));have HNE:=Hi (q32 hg (q1o hf));have HB0:=Hi hb0;have HB:=Hi hB;have HW:=Hi hw0;have hbl:=hB.lt;have hdi:¬ (60:Int) < (d:Int):=V0;have HF:=Hi hf;clear hb0 hB hp hw0 hg hf;go_enter Tryz.func57,Tryz.ntmps57;go_wp2_with fail
 rw [HW.out];refine HT.out.mono ?_;rintro e w1 ⟨rfl,hb1⟩;have h01:=hb1.size;have Be:=Hi (Bb.out.below hb1);have Aj:=Hi ((q01 (bp:=bp) HB0.out).trans (q01 hb1));have AP:=Hi (HB.out.below hb1 HB.out.lt);clear hb1 HT Bb;go_wp2_with fail
 try rw [show decide ((60:Int) < (d:Int))=false from decide_eq_false V0]
 refine (q0n w1 bp 0 0 150 false t r Be.out (.inl rfl)).mono ?_;rintro e w' ⟨rfl,rfl⟩;go_wp2_with fail
 refine (q0p w1 bp t r [102,111,114] Be.out HF.out HNE.out).mono ?_;rintro e w3 ⟨rfl,hp3,hu3⟩;have HSC:Hid (SC w3 bp r.length (fun f l=>bE l fun s r1=>must [105,110] r1 fun r2=>bnd (pF ag f (.aI 0) d r2) fun xs r3=>must [46,46] r3 fun r4=>bnd (pF ag f (.aI 0) d r4) fun ys r5=>must [123] r5 fun r6=>IsK d (xs ++ ys) (FeK t.at_ s) f r6) (Rd ag .inner d (t :: r))):=Hi (.inl ⟨r,hp3,HGR.out,Nat.le_refl _,fun o ho=>r_for hd HF.out ho⟩);have h13:=hu3.size;have Aw:=Hi (Aj.out.trans hu3);have Aq:=Hi (AP.out.upd hu3 (show ¬ w.heap.size=bp from V0));clear hp3 hu3 Be Aj AP;go_wp2_with fail
 refine (q2p w3 bp _ _ _ HSC.out).mono ?_;rintro e w4 ⟨sn,rfl,hs4,aF,_⟩;have h34:=aF.size;have HS4:=Hi hs4;have AO:=Hi (Aw.out.trans aF);have Ba:=Hi (Aq.out.upd aF (show ¬ w.heap.size=bp from V0));clear hs4 aF HSC Aw Aq;go_wp2_with fail
 refine (q0L w4 bp _ _ _ _ HS4.out).mono ?_;rintro e w5 ⟨rfl,hs5,bn,_⟩;have h45:=bn.size;have HS5:=Hi hs5;have AR:=Hi (AO.out.trans bn);have AX:=Hi (Ba.out.upd bn (show ¬ w.heap.size=bp from V0));clear hs5 bn HS4 AO Ba;go_wp2_with fail
 refine (ex_u w5 bp _ d (fun xs f r3=>must [46,46] r3 fun r4=>bnd (pF ag f (.aI 0) d r4) fun ys r5=>must [123] r5 fun r6=>IsK d (xs ++ ys) (FeK t.at_ sn) f r6) _ HS5.out).mono ?_;rintro e w6 ⟨k,a,s,m,A,la,cA,B,lb,cB,x,rfl,hT,hS,hU,_⟩;obtain ⟨w7,hw7,bO,hbn⟩:=aS w6 #[.int .i64 (k:Int),.string ⟨s.toArray⟩,.int .u32 (m:Int),.int .i64 (a:Int),.slice A la cA,.slice B lb cB] 26;have h56:=hU.size;have h67:=hbn.lt;have HT7:Hid (whyQ w7 bp = 0->Ak (fun b=>w.heap.size+1<=b) w7 x (bG k a s m A la cA B lb cB)):=Hi fun hq=>(tup (hT ((hS.stay bO).back hq)) (show w.heap.size+1<=w5.heap.size from V0)).upd (Upd.of_below bO fun _=>False) (fun _ _ h=>h)
 have HS7:=Hi (hS.below bO);have HU7:=Hi ((AR.out.trans hU).trans (q01 bO));have HX7:=Hi ((AX.out.upd hU (show ¬ w.heap.size=bp from V0)).below bO V0);have HW7:=Hi hw7;have HBN:=Hi hbn;clear hT hS hU bO hw7 hbn HS5 AR AX;go_wp2_with fail
 rw [HW7.out];refine (q0L w7 bp _ _ _ _ HS7.out).mono ?_;rintro e w8 ⟨rfl,aV,bU,hst8⟩;have h78:=bU.size;have HT8:Hid (whyQ w8 bp = 0->Ak (fun b=>w.heap.size+1<=b) w8 x (bG k a s m A la cA B lb cB)):=Hi fun hq=>(HT7.out (hst8.back hq)).upd bU fun b hb e=>V0
 have HS8:=Hi aV;have HU8:=Hi (HU7.out.trans bU);have HX8:=Hi (HX7.out.upd bU (show ¬ w.heap.size=bp from V0));have HBN8:=Hi (HBN.out.upd bU (show ¬ w6.heap.size=bp from V0));clear aV bU hst8 HS7 HU7 HX7 HT7 HBN HW7;go_wp2_with fail
 refine (ex_u w8 bp _ d (fun ys f r5=>must [123] r5 fun r6=>IsK d ([x] ++ ys) (FeK t.at_ sn) f r6) _ HS8.out).mono ?_;rintro e w9 ⟨k2,a2,s2,m2,A2,la2,cA2,B2,lb2,cB2,y,rfl,hT,hS,hU,hst9⟩;obtain ⟨wa,hwa,aL,hbn⟩:=aS w9 #[.int .i64 (k2:Int),.string ⟨s2.toArray⟩,.int .u32 (m2:Int),.int .i64 (a2:Int),.slice A2 la2 cA2,.slice B2 lb2 cB2] 26;have h89:=hU.size;have h9a:=hbn.lt;have HTx:Hid (whyQ wa bp = 0->Ak (fun b=>w.heap.size+1<=b) wa x (bG k a s m A la cA B lb cB)):=Hi fun hq=>((HT8.out (hst9.back ((hS.stay aL).back hq))).upd hU fun b hb e=>V0).upd (Upd.of_below aL fun _=>False) (fun _ _ h=>h)
 have HTy:Hid (whyQ wa bp = 0->Ak (fun b=>w.heap.size+1<=b) wa y (bG k2 a2 s2 m2 A2 la2 cA2 B2 lb2 cB2)):=Hi fun hq=>(tup (hT ((hS.stay aL).back hq)) (show w.heap.size+1<=w8.heap.size from V0)).upd (Upd.of_below aL fun _=>False) (fun _ _ h=>h)
 have HSa:=Hi (hS.below aL);have HUa:=Hi ((HU8.out.trans hU).trans (q01 aL));have HXa:=Hi ((HX8.out.upd hU (show ¬ w.heap.size=bp from V0)).below aL V0);have HWa:=Hi hwa;have HBNy:=Hi hbn;have HBNx:=Hi ((HBN8.out.upd hU (show ¬ w6.heap.size=bp from V0)).below aL V0);clear hT hS hU aL hwa hbn hst9 HS8 HU8 HX8 HT8 HBN8;go_wp2_with fail
 rw [HWa.out];refine (q0L wa bp _ _ _ _ HSa.out).mono ?_;rintro e wb ⟨rfl,hsb,hub,hstb⟩;have hab:=hub.size;have hnx:=HBNx.out.upd hub (show ¬ w6.heap.size=bp from V0);have hny:=HBNy.out.upd hub (show ¬ w9.heap.size=bp from V0);obtain ⟨⟨g0,g1,g2,g3,g4,g5⟩,x0,x1,x2,x3,x4,x5⟩:=Aa.c6 hnx;obtain ⟨⟨j0,j1,j2,j3,j4,j5⟩,y0,y1,y2,y3,y4,y5⟩:=Aa.c6 hny;have hnxl:=hnx.lt;have hnyl:=hny.lt;have HTx2:Hid (whyQ wb bp = 0->Ak (fun b=>w.heap.size+1<=b) wb x (bG k a s m A la cA B lb cB)):=Hi fun hq=>(HTx.out (hstb.back hq)).upd hub fun b hb e=>V0
 have HTy2:Hid (whyQ wb bp = 0->Ak (fun b=>w.heap.size+1<=b) wb y (bG k2 a2 s2 m2 A2 la2 cA2 B2 lb2 cB2)):=Hi fun hq=>(HTy.out (hstb.back hq)).upd hub fun b hb e=>V0
 have HSb:=Hi hsb;have HUb:=Hi (HUa.out.trans hub);have HXb:=Hi (HXa.out.upd hub (show ¬ w.heap.size=bp from V0));clear hsb hub hstb hnx hny HTx HTy HSa HUa HXa HWa HBNx HBNy;obtain ⟨wc,hwc,hbc,-⟩:=aS wb #[.int .i64 (k:Int),.string ⟨s.toArray⟩,.int .u32 (m:Int),.int .i64 (a:Int),.slice A la cA,.slice B lb cB,.int .i64 (k2:Int),.string ⟨s2.toArray⟩,.int .u32 (m2:Int),.int .i64 (a2:Int),.slice A2 la2 cA2,.slice B2 lb2 cB2] 26;have HJ:Hid (FqI w bp d t.at_ r.length sn (Rd ag .inner d (t :: r)) 2 wb.heap.size 2 wc):=Hi (by
  rcases HSb.out with ⟨l8,hq8,hg8,hl8,hE8⟩ | ⟨ba,er,t8,r8,he8,hE8,hq8⟩
  ·refine .inl ⟨l8,[x,y],rfl,hq8.below hbc,hg8,V4,V0,?_,hE8⟩;have hw0:=q1C hq8;have:=AY.two (e:=26) (HTx2.out hw0) (HTy2.out hw0) V0
   rwa [show wb.alloc (.cells ((bG k a s m A la cA B lb cB) ++ (bG k2 a2 s2 m2 A2 la2 cA2 B2 lb2 cB2)).toArray 26)=wc from hwc] at this
  ·exact .inr ⟨ba,er,t8,r8,he8,hE8,hq8.below hbc⟩)
 have HUc:=Hi (HUb.out.trans (q01 hbc));have HXc:=Hi (HXb.out.below hbc HXb.out.lt);have HWC:=Hi hwc;clear hbc hwc HTx2 HTy2 HSb HUb HXb;go_wp2_with fail
 rw [HWC.out];clear g0 g1 g2 g3 g4 g5 x0 x1 x2 x3 x4 x5 j0 j1 j2 j3 j4 j5 y0 y1 y2 y3 y4 y5
 go_loopw [9] (fun vl wr=>∃ n' g c,vl = .slice (some ⟨g,0,none⟩) n' c/\Hid (FqI w bp d t.at_ r.length sn (Rd ag .inner d (t :: r)) n' g c wr)/\Hid (UB bp w wr)/\Hid (Aa wr w.heap.size 26 zNd)) (fun _ wr=>meQ wr bp)
 case atStart=>exact ⟨2,_,2,rfl,HJ,HUc,HXc⟩
 case round=>
  clear HJ HUc HXc HWC;obtain ⟨n',g,c,rfl,HJ,HUr,HXr⟩:=hrel;have hxl:=HXr.out.lt;rcases HJ.out with ⟨l,zs,rfl,hql,hgl,hfl,hll,hAr,hEl⟩ | ⟨ba,er,v,r',he,hR9,hP9⟩
  ·obtain ⟨v,r',rfl⟩:=hgl.cons;obtain ⟨b',o',c',n',hnn,hln,hcc,hmm,⟨c0,c1,c2,c3⟩,⟨z0,z1,z2,z3⟩,f4,f5,f6⟩:=hql.head;have hbpl:=hql.lt;have HQL:=Hi hql;have HGL:=Hi hgl;have HAR:=Hi hAr;have HEL:=Hi hEl;simp only [List.length_cons] at hfl hll;clear hql hgl hAr hEl HJ hnn hln hcc hmm c0 c1 c2 z0 z1 z2 z3 f4 f5 f6;by_cases hv:ak [125] v=true
   ·have HV:=Hi hv;have HGV:=Hi (HGL.out.tail (q1o hv));have HGO:=Hi (q0p wr bp v r' [125] HQL.out hv (q32 HGL.out (q1o hv)));clear hv;go_wp2_with fail
    refine HGO.out.mono ?_;rintro e wa ⟨rfl,hpa,hua⟩;have HPa:=Hi hpa;have HUa:=Hi (HUr.out.trans hua);have HXa:=Hi (HXr.out.upd hua V0);have HAa:=Hi (HAR.out.upd hua fun b hb=>V0);clear hpa hua HGO c3;go_wp2_with fail
    refine (node wa 11 t.at_ sn _ _ _).mono ?_;rintro e wd ⟨rfl,hbd⟩;have hx:=HXa.out.below hbd HXa.out.lt;obtain ⟨⟨e0,e1,e2,e3,e4,e5⟩,z0,z1,z2,z3,z4,z5⟩:=Aa.c6 hx;have H1:=Hi hx;have Az:=Hi hbd;clear hx hbd;go_wp2_with fail
    refine bodyPost_ret (aH rfl rfl (Aa.az H1.out _ _ _ _ _ _) rfl) rfl ?_;have hN:=(HAa.out.upd (Upd.of_below Az.out fun _=>False) (fun _ h=>h.elim)).node V0 11 t.at_ 0 sn;exact q5E (lo:=w.heap.size+1) hlt (Nat.lt_succ_self _) hN (HEL.out _ (is_end HV.out _ _)) (HPa.out.below Az.out) HGV.out Vp (HUa.out.trans (q01 Az.out))
   ·have hv':ak [125] v=false:=by simpa using hv
    have HV:=Hi hv';have HGO:=Hi (q03 wr bp 0 0 v r' [125] HQL.out (.inr hv'));clear hv hv';go_wp2_with fail
    refine HGO.out.mono ?_;rintro e wa ⟨rfl,aL⟩;have hra:=aL.size;have HI1:=Hi (H wa bp (d+1) (v :: r') Vp (HQL.out.below aL) HGL.out);have AA:=Hi aL;clear aL HGO c3;go_wp2_with fail
    refine HI1.out.mono ?_;rintro e wd ⟨k',a',s',m',A',la',bu,B',lb',bA,rfl,hU,hO⟩;obtain ⟨we,hwe,hbe,-⟩:=aS wd #[.int .i64 (k':Int),.string ⟨s'.toArray⟩,.int .u32 (m':Int),.int .i64 (a':Int),.slice A' la' bu,.slice B' lb' bA] 26;have hse:we.heap.size=wd.heap.size+1:=by rw [<-hwe];simp
    have hsd:=hU.size;have hure:UB bp wr we:=((q01 AA.out).trans hU).trans (q01 hbe);obtain ⟨css,how,hts⟩:=HAR.out;have hgg:=q0Q how;have HOA:=Hi (World.ownsRow.alloc (q0O how hure V0) (.cells #[.int .i64 (k':Int),.string ⟨s'.toArray⟩,.int .u32 (m':Int),.int .i64 (a':Int),.slice A' la' bu,.slice B' lb' bA] 26));have HLI:=Hi (q06 we 26 (bG k' a' s' m' A' la' bu B' lb' bA));have HBS:=Hi (show w.heap.size+1<=(we.alloc (.cells #[.int .i64 (k':Int),.string ⟨s'.toArray⟩,.int .u32 (m':Int),.int .i64 (a':Int),.slice A' la' bu,.slice B' lb' bA] 26)).heap.size from V4);have HOW:=Hi how;have HTS:=Hi hts;have HURE:=Hi hure;have HO:=Hi hO;have HBE:=Hi hbe;have HWE:=Hi hwe;have HSE:=Hi hse;have HXe:=Hi (HXr.out.upd hure (show ¬ w.heap.size=bp from V0));have HUe:=Hi (HUr.out.trans hure);clear how hts hure hU hO hbe hwe;rw [hse] at HLI;go_wp2_with (at_builtin;rw [HWE.out];refine q0d rfl _ _ 23 rfl (w.heap.size+1) 26 i0 (.agg zNd) 6 88 Tryz.underlying23 HI.out HZ0.out HZ1.out HZ2.out rfl V2 _ zs.length _ rfl HOA.out ⟨wd.heap.size+1,0,none⟩ 1 1 (bG k' a' s' m' A' la' bu B' lb' bA) rfl rfl HLI.out VN V6 V0 HBS.out V2 ?_;intro g8 c8 w8' hE;have HE8:=Hi hE;clear hE)
    have bU:Upd (fun b=>b=g) we w8':=((Upd.refl (fun b=>b=g) we).alloc _).grown HE8.out.grown fun k hk _=>Vx
    have hU8:UB bp w w8':=(HUe.out.alloc _).grown HE8.out.grown fun k hk hs=>by
     exact V1z
    have hJ8:FqI w bp d t.at_ r.length sn (Rd ag .inner d (t :: r)) (zs.length+1) g8 c8 w8'/\meQ w8' bp < meQ wr bp:=by
     have hmr:=HQL.out.me;simp only [List.length_cons] at hmr;rcases HO.out with ⟨y2,r5,hT,hR,hP,hG,hr⟩ | ⟨ba,er,t5,r5,he,hR,hP⟩
     ·have hTe:Ak (fun b=>wr.heap.size<=b) we y2 (bG k' a' s' m' A' la' bu B' lb' bA):=(tup hT (show wr.heap.size<=wa.heap.size from V0)).upd (Upd.of_below HBE.out fun _=>False) (fun _ _ h=>h);have hst:=q1D HOW.out HTS.out V0 HURE.out hTe HE8.out;have hq8:=(hP.below HBE.out).far bU fun b hb=>V0
      simp only [List.length_cons] at hr;refine ⟨.inl ⟨r5,zs ++ [y2],V3,hq8,hG,V4,V0,hst.1,fun o h=>HEL.out o (is_go HV.out hR h)⟩,?_⟩;have:=hq8.me;omega
     ·have hq8:=(hP.below HBE.out).far bU fun b hb=>by omega
      refine ⟨.inr ⟨ba,er,t5,r5,he,HEL.out _ (is_bad HV.out hR),hq8⟩,?_⟩;have:=hq8.me0 he;omega
    have HX8:=Hi (HXe.out.upd bU (show ¬ w.heap.size=g from V0));have HU8:=Hi hU8;have HJ8:=Hi hJ8;clear bU hU8 hJ8
    go_roundw
    case rel=>exact ⟨zs.length+1,g8,c8,rfl,Hi HJ8.out.1,HU8,HX8⟩
    case measure=>exact HJ8.out.2
  ·obtain ⟨b',o',c',n'',hnn,hln,hcc,hmm,⟨c0,c1,c2,c3⟩,⟨z0,z1,z2,z3⟩,f4,f5,f6⟩:=hP9.head;have hbpl:=hP9.lt;have hwy:((er:Int)==0)=false:=V4;have HP9:=Hi hP9;have HR9:=Hi hR9;have HE9:=Hi he;clear HJ hP9 hR9 he hnn hln hcc hmm c0 c1 c2 z0 z1 z2 z3 f4 f5 f6;go_wp2_with fail
   clear c3;refine (node wr 11 t.at_ sn _ _ _).mono ?_;rintro e wd ⟨rfl,hbd⟩;have hx:=HXr.out.below hbd HXr.out.lt;obtain ⟨⟨e0,e1,e2,e3,e4,e5⟩,z0,z1,z2,z3,z4,z5⟩:=Aa.c6 hx;have H1:=Hi hx;have Az:=Hi hbd;clear hx hbd;go_wp2_with fail
   refine bodyPost_ret (aH rfl rfl (Aa.az H1.out _ _ _ _ _ _) rfl) rfl ?_;exact q1e 11 t.at_ 0 _ _ 0 0 sn _ none hlt HE9.out HR9.out (HP9.out.below Az.out) (HUr.out.trans (q01 Az.out))
theorem inq:∀ n,InQ n
 | 0=>fun w bp d l hl _ hg=>by
  exact V0R
 | n+1=>fun w bp d l hl hp hg=>by
  obtain ⟨t,r,rfl⟩:=hg.cons;simp only [List.length_cons] at hl;by_cases hd:60 < d
  ·exact in_letD w bp d t r hp hg hd
  ·cases ht:ak [102,111,114] t
   ·exact in_let w bp d t r hp hg V0 ht
   ·exact in_for (inq n) w bp d t r V0 hp hg V0 ht
end
end Pq
end Go.Proofs.YtcgibpdjfgjldaaGreatDoor
