/- DERIVED. NmQe. By an AI agent. -/
import Derived.Test.YtcgibpdjfgjldaaGreatDoorR08
import Derived.Deep.DeepCutAuto
import Derived.StillTactics
import Derived.WalkSpells
set_option maxRecDepth 100000
set_option maxHeartbeats 8000000
set_option linter.unusedVariables false
set_option linter.unusedSimpArgs false
open Go Go.ChangeShapes Go.WideShapes Go.ChangeAt Go.RowKit
namespace Go.Proofs.YtcgibpdjfgjldaaGreatDoor
namespace Nm
open Lx Args Pa Sh
structure AZ(w wx:World)(g:Nat)(v0 v1 v2 v3 v4 v7 v8 v9:Value)(d:RS)(bad:Option Int)(cs:Array Value):Prop where
 ev:EV wx g v0 v1 v2 v3 v4 v7 v8 v9 d bad
 up:Upd (fun b=>b=g) w wx
 bx:Aa wx w.heap.size 26 cs
def EZ(w wx:World)(g:Nat)(v0 v1 v2 v3 v4 v7 v8 v9:Value)(cs:Array Value):Prop:=(∃ x5 x6,Aa wx g 70 #[v0,v1,v2,v3,v4,x5,x6,v7,v8,v9])/\Aa wx w.heap.size 26 cs
theorem AZ.ez{w wx:World}{g:Nat}{v0 v1 v2 v3 v4 v7 v8 v9:Value}{d:RS}{bad:Option Int}{cs:Array Value}(h:AZ w wx g v0 v1 v2 v3 v4 v7 v8 v9 d bad cs):EZ w wx g v0 v1 v2 v3 v4 v7 v8 v9 cs:=by
 obtain ⟨ba,hb,_⟩:=h.ev.blk;exact ⟨⟨_,_,hb⟩,h.bx⟩
theorem q67(bad:Option Int)(q:Bool)(a:Int)(p:Option Int):orO (bT bad q a) p=orO bad (if q=true then some a else p):=by
 cases bad with
 | some b=>rfl
 | none=>cases q <;> rfl
theorem q3Z(a b c:Option Int):orO (orO a b) c=orO a (orO b c):=by cases a <;> rfl
theorem q40(a:Option Int):orO a none=a:=by cases a <;> rfl
theorem q1Y(isN:Bs->Bool)(cal:Bs->Nat->Bool):aB isN cal []=none:=by unfold aB;rfl
theorem q1b(isN:Bs->Bool)(cal:Bs->Nat->Bool):∀ (l:List Tz) (i:Nat) (x:Tz),l[i]?=some x->aB isN cal (l.take (i+1))=orO (aB isN cal (l.take i)) (exB isN cal x)
 | [],i,x,h=>Vc
 | y :: l,0,x,h=>by
  have:y=x:=Va;subst this;rw [List.take_succ_cons,List.take_zero,List.take_zero,q1Y];unfold aB;rw [q1Y];cases exB isN cal y <;> rfl
 | y :: l,i+1,x,h=>by
  rw [List.take_succ_cons,List.take_succ_cons];have:=q1b isN cal l i x Va;unfold aB;rw [this];cases exB isN cal y <;> rfl
theorem expr_:∀ (M:Nat) (z:Tz),SizeOf.sizeOf z < M->∀ (w0 w:World) (g:Nat) (v0 v1 v2 v3 v4 v7 v8 v9:Value) (d:RS) (bad:Option Int) (k a:Int) (s:Bs) (n:Nat) (A:Option Addr) (la cA:Nat) (B:Option Addr) (lb cB:Nat),TIz w0 z (nzC k a s n A la cA B lb cB)->Below w0.heap.size w0 w->w0.heap.size<=g->EV w g v0 v1 v2 v3 v4 v7 v8 v9 d bad ->
  Calls Tryz.prog 66 #[.pointer (some ⟨g,0,none⟩),aO k a s n A la cA B lb cB] w (ExR w g v0 v1 v2 v3 v4 v7 v8 v9 d (orO bad (exB (aJ d) (aD d.fn d.many) z)))
 | 0,z,h=>absurd h (Nat.not_lt_zero _)
 | M+1,.mk k1 a1 s1 n1 ps l,hM=>fun w0 w g v0 v1 v2 v3 v4 v7 v8 v9 d bad k a s n A la cA B lb cB hT hb hg h=>by
  obtain ⟨rfl,rfl,rfl,rfl,rfl,rfl,hl,hp,hB,css,hL,hS⟩:=q0B hT;have hlm:l.length<=9223372036854775807:=hl;obtain ⟨wn,hwn,hbn,aK,hsn⟩:=dw w (nB k a s n A l.length cA B ps.length cB);have hgw:=h.lt;have hne:¬ w.heap.size=g:=V0;have h0:AZ w wn g v0 v1 v2 v3 v4 v7 v8 v9 d bad (nB k a s n A l.length cA B ps.length cB):=⟨h.below hbn,Upd.of_below hbn _,aK⟩;have hinn:=(h.below hbn).aT;have hvar:=(h.below hbn).var;have hloo:=(h.below hbn).aN;have hfn:=(h.below hbn).fn;obtain ⟨A0,c0',rfl,_⟩:=hinn;obtain ⟨A1,c1',rfl,_⟩:=hvar;obtain ⟨A2,c2',rfl,_⟩:=hloo;obtain ⟨A3,c3',rfl,_⟩:=hfn;obtain ⟨u0,hu0⟩:∃ u,u=Value.slice A0 d.aT.length c0':=⟨_,rfl⟩;have hs3:(ByteArray.mk s.toArray).data.toList=s:=V3;have HIN:Hid (∀ (wx:World) (v:Value) (ls:List Bs),StL wx g v ls->Calls Tryz.prog 52 #[v,.string ⟨s.toArray⟩] wx fun e w'=>e = .returned (.bool (ls.contains s))/\wx=w'):=Hi fun wx v ls hv=>by
   obtain ⟨Av,cv,rfl,hLv,hlv,_⟩:=hv;have:=q51 Av cv ls ⟨s.toArray⟩ wx hLv hlv;rw [hs3] at this;exact this
  have HMA:Hid (∀ (wx:World) (b:Option Int),EV wx g (.slice A0 d.aT.length c0') (.slice A1 d.var.length c1') (.slice A2 d.aN.length c2') (.slice A3 d.fn.length c3') v4 v7 v8 v9 d b->Calls Tryz.prog 98 #[.pointer (some ⟨g,0,none⟩),.string ⟨s.toArray⟩] wx fun e w'=>e = .returned (.int .i64 (bZ d.fn d.many s))/\wx=w'):=Hi fun wx b hv=>many_ wx g _ _ _ _ _ _ _ _ d b s hv
  have AA:Hid (∀ (wx:World) (b:Option Int) (q:Bool),AZ w wx g (.slice A0 d.aT.length c0') (.slice A1 d.var.length c1') (.slice A2 d.aN.length c2') (.slice A3 d.fn.length c3') v4 v7 v8 v9 d b (nB k a s n A l.length cA B ps.length cB)->Calls Tryz.prog 64 #[.pointer (some ⟨g,0,none⟩),.bool q,aO k a s n A l.length cA B ps.length cB] wx fun e w'=>e = .returned (.tuple #[])/\AZ w w' g (.slice A0 d.aT.length c0') (.slice A1 d.var.length c1') (.slice A2 d.aN.length c2') (.slice A3 d.fn.length c3') v4 v7 v8 v9 d (bT b q a) (nB k a s n A l.length cA B ps.length cB)):=Hi fun wx b q hv=>(bad_ wx g _ _ _ _ _ _ _ _ d b q k a s n A l.length cA B ps.length cB hv.ev).mono fun e w' ⟨h1,h2,h3⟩=>⟨h1,h2,hv.up.trans h3,hv.bx.upd h3 hne⟩
  have hex:exB (aJ d) (aD d.fn d.many) (.mk k a s n ps l)=if (k = 1/\aJ d s=false)\/(k = 5/\aD d.fn d.many s l.length=false) then some a else aB (aJ d) (aD d.fn d.many) l:=by conv=>lhs;unfold exB
  rw [hex];obtain ⟨b1,hb1⟩:∃ b1,bT bad (decide (k = 1) && !aJ d s) a=b1:=⟨_,rfl⟩;obtain ⟨b2,hb2⟩:∃ b2,bT b1 (decide (k = 5) && !aD d.fn d.many s l.length) a=b2:=⟨_,rfl⟩;have hfin:orO bad (if (k = 1/\aJ d s=false)\/(k = 5/\aD d.fn d.many s l.length=false) then some a else aB (aJ d) (aD d.fn d.many) l)=orO b2 (aB (aJ d) (aD d.fn d.many) l):=by
   rw [<-hb2,q67,<-hb1,q67]
   congr 1
   by_cases h1:k = 1
   ·have h5:¬ k = 5:=by omega
    simp only [h1,h5,decide_true,decide_false,Bool.true_and,Bool.false_and,false_and,or_false,true_and,Bool.not_eq_true'];simp
   ·by_cases h5:k = 5
    ·simp only [h1,h5,decide_true,decide_false,Bool.true_and,Bool.false_and,false_and,false_or,true_and,Bool.not_eq_true'];simp
    ·simp [h1,h5]
  rw [hfin];have HB1:=Hi hb1;have HB2:=Hi hb2;have H0:=Hi h0;have HW:=Hi hwn;have HL:=Hi hL;have HS:=Hi hS;have HM:=Hi hM;have Ay:=Hi hb;have IH:=Hi (expr_ M);obtain ⟨⟨e0,e1,e2,e3,e4,e5⟩,z0,z1,z2,z3,z4,z5⟩:=Aa.c6 aK;clear u0 hu0 hT hB hL hS hM hb h h0 hwn hbn aK hsn hex hfin hb1 hb2 hs3;go_enter Tryz.func66,Tryz.ntmps66;go_upto_region 1 with fail
  rw [HW.out]
  go_upto_if 7 with fail
  go_cut [] (fun wx=>Hid (AZ w wx g (.slice A0 d.aT.length c0') (.slice A1 d.var.length c1') (.slice A2 d.aN.length c2') (.slice A3 d.fn.length c3') v4 v7 v8 v9 d b1 (nB k a s n A l.length cA B ps.length cB)))
  case first=>
   by_cases hk:k = 1
   ·subst hk;have HQ:=Hi (show bT bad (!aJ d s) a=b1 from by rw [<-HB1.out];simp);have hdr:Below wn.heap.size wn wn.drew:=Below.drew (Below.refl _ _);obtain ⟨wz,hwd⟩:∃ v,wn.drew=v:=⟨_,rfl⟩;rw [hwd] at hdr;have h1:=H0.out;have hz:AZ w wz g (.slice A0 d.aT.length c0') (.slice A1 d.var.length c1') (.slice A2 d.aN.length c2') (.slice A3 d.fn.length c3') v4 v7 v8 v9 d bad (nB 1 a s n A l.length cA B ps.length cB):=⟨h1.ev.below hdr,h1.up.trans (Upd.of_below hdr _),h1.bx.below hdr h1.bx.lt⟩;have aa:=hz.ez;have HI0:=Hi (HIN.out wz _ _ hz.ev.aT);have HI1:=Hi (HIN.out wz _ _ hz.ev.var);have HI2:=Hi (HIN.out wz _ _ hz.ev.aN);have Az:=Hi fun q=>AA.out wz bad q hz
    have hw:aJ d s=(d.aT.contains s || d.var.contains s || d.aN.contains s):=rfl;rw [hw] at HQ;obtain ⟨p0,hp0⟩:∃ p,d.aT.contains s=p:=⟨_,rfl⟩;obtain ⟨p1,hp1⟩:∃ p,d.var.contains s=p:=⟨_,rfl⟩;obtain ⟨p2,hp2⟩:∃ p,d.aN.contains s=p:=⟨_,rfl⟩;rw [hp0,hp1,hp2] at HQ;rw [hp0] at HI0;rw [hp1] at HI1;rw [hp2] at HI2;clear hp0 hp1 hp2 hw h1 hz hdr e0 e1 e2 e3 e4 e5 z0 z1 z2 z3 z4 z5;go_wp2_with fail
    refine HT.wp_region (Z:=fun w'=>EZ w w' g (.slice A0 d.aT.length c0') (.slice A1 d.var.length c1') (.slice A2 d.aN.length c2') (.slice A3 d.fn.length c3') v4 v7 v8 v9 (nB 1 a s n A l.length cA B ps.length cB)) (S:=fun _=>True) (st:=[]) V1 ?_;rw [hwd];clear hwd;refine HT.k 0 rfl V5 aa ?_;refine HT.k 1 rfl V5 aa ?_;refine HT.k 2 rfl V5 aa ?_;refine HT.k 3 rfl V5 aa ?_;refine HT.k 4 rfl V5 aa ?_;refine HT.k 5 rfl V5 aa ?_;refine HT.k 6 rfl V5 aa ?_;refine HT.k 29 rfl V5 aa ?_;refine HT.one (i:=7) V1 rfl (fun K hK=>?_);go_simp;refine HI0.out.mono ?_;rintro e w' ⟨rfl,rfl⟩;(try dsimp only);refine hK.out _ _ aa trivial ?_;clear hK K;(try simp only [HT.pS]);cases p0 with
    | true=>
     refine HT.k 8 rfl V5 aa ?_;refine HT.k 9 rfl V5 aa ?_;refine HT.s 10 aa ?_;refine HT.s 11 aa ?_;refine HT.s 12 aa ?_;refine HT.s 13 aa ?_;refine HT.s 14 aa ?_;refine HT.s 15 aa ?_;refine HT.s 16 aa ?_;refine HT.s 17 aa ?_;exact V2f
    | false=>
     refine HT.k 8 rfl V5 aa ?_;refine HT.k 9 rfl V5 aa ?_;refine HT.k 10 rfl V5 aa ?_;refine HT.k 11 rfl V5 aa ?_;refine HT.k 12 rfl V5 aa ?_;refine HT.k 13 rfl V5 aa ?_;refine HT.k 14 rfl V5 aa ?_;refine HT.k 15 rfl V5 aa ?_;refine HT.one (i:=16) V1 rfl (fun K hK=>?_);go_simp;refine HI1.out.mono ?_;rintro e w' ⟨rfl,rfl⟩;(try dsimp only);refine hK.out _ _ aa trivial ?_;clear hK K;(try simp only [HT.pS]);cases p1 with
     | true=>
      refine HT.k 17 rfl V5 aa ?_;exact V2f
     | false=>
      refine HT.k 17 rfl V5 aa ?_;refine HT.k 18 rfl V5 aa ?_;refine HT.k 19 rfl V5 aa ?_;refine HT.k 20 rfl V5 aa ?_;refine HT.k 21 rfl V5 aa ?_;refine HT.k 22 rfl V5 aa ?_;refine HT.k 23 rfl V5 aa ?_;refine HT.k 24 rfl V5 aa ?_;refine HT.k 25 rfl V5 aa ?_;refine HT.one (i:=26) V1 rfl (fun K hK=>?_);go_simp;refine HI2.out.mono ?_;rintro e w' ⟨rfl,rfl⟩;(try dsimp only);refine hK.out _ _ aa trivial ?_;clear hK K;(try simp only [HT.pS]);refine HT.k 27 rfl V5 aa ?_;refine HT.k 28 rfl V5 aa ?_;refine HT.one (i:=30) V1 rfl (fun K hK=>?_);go_simp;refine (Az.out (!p2)).mono ?_;exact V1a
   ·have hki:(k==1)=false:=by simp;omega
    have hkd:decide (k = 1)=false:=V4;have h1:b1=bad:=by rw [<-HB1.out,hkd];cases bad <;> rfl
    have HQ:=Hi h1;clear h1;go_wp2_with fail
    go_meet
    exact Hi (by rw [HQ.out];exact H0.out)
  case rest=>
   clear e0 e1 e2 e3 e4 e5 z0 z1 z2 z3 z4 z5 H0;have H1:=hcut;obtain ⟨⟨e0,e1,e2,e3,e4,e5⟩,z0,z1,z2,z3,z4,z5⟩:=Aa.c6 H1.out.bx;have hl9:=H1.out.bx.lt
   go_upto_if 41 with fail
   go_cut [] (fun wx=>Hid (AZ w wx g (.slice A0 d.aT.length c0') (.slice A1 d.var.length c1') (.slice A2 d.aN.length c2') (.slice A3 d.fn.length c3') v4 v7 v8 v9 d b2 (nB k a s n A l.length cA B ps.length cB)))
   case first=>
    by_cases hk:k = 5
    ·subst hk;have HQ:=Hi (show bT b1 (!aD d.fn d.many s l.length) a=b2 from by rw [<-HB2.out];simp);have hdr:Below wc.heap.size wc wc.drew:=Below.drew (Below.refl _ _);obtain ⟨wz,hwd⟩:∃ v,wc.drew=v:=⟨_,rfl⟩;rw [hwd] at hdr;have h1:=H1.out;have hz:AZ w wz g (.slice A0 d.aT.length c0') (.slice A1 d.var.length c1') (.slice A2 d.aN.length c2') (.slice A3 d.fn.length c3') v4 v7 v8 v9 d b1 (nB 5 a s n A l.length cA B ps.length cB):=⟨h1.ev.below hdr,h1.up.trans (Upd.of_below hdr _),h1.bx.below hdr h1.bx.lt⟩;have aa:=hz.ez;have HI0:=Hi (HIN.out wz _ _ hz.ev.fn);have HMM:=Hi (HMA.out wz _ hz.ev);have Az:=Hi fun q=>AA.out wz b1 q hz
     have hw:aD d.fn d.many s l.length=(decide (bZ d.fn d.many s=(l.length:Int)) && d.fn.contains s):=rfl;rw [hw] at HQ;obtain ⟨p0,hp0⟩:∃ p,d.fn.contains s=p:=⟨_,rfl⟩;obtain ⟨my,hmy⟩:∃ p,bZ d.fn d.many s=p:=⟨_,rfl⟩;rw [hp0,hmy] at HQ;rw [hp0] at HI0;rw [hmy] at HMM;clear hp0 hmy hw h1 hz hdr e0 e1 e2 e3 e4 e5 z0 z1 z2 z3 z4 z5;go_wp2_with fail
     refine HT.wp_region (Z:=fun w'=>EZ w w' g (.slice A0 d.aT.length c0') (.slice A1 d.var.length c1') (.slice A2 d.aN.length c2') (.slice A3 d.fn.length c3') v4 v7 v8 v9 (nB 5 a s n A l.length cA B ps.length cB)) (S:=fun _=>True) (st:=[]) V1 ?_;rw [hwd];clear hwd;refine HT.k 0 rfl V5 aa ?_;refine HT.k 1 rfl V5 aa ?_;refine HT.k 2 rfl V5 aa ?_;refine HT.k 3 rfl V5 aa ?_;refine HT.k 5 rfl V5 aa ?_;refine HT.k 6 rfl V5 aa ?_;refine HT.k 7 rfl V5 aa ?_;refine HT.k 19 rfl V5 aa ?_;refine HT.one (i:=4) V1 rfl (fun K hK=>?_);go_simp;refine HMM.out.mono ?_;rintro e w' ⟨rfl,rfl⟩;(try dsimp only);refine hK.out _ _ aa trivial ?_;clear hK K;(try simp only [HT.pS]);by_cases hmm:my=(l.length:Int)
     ·have hmb:(my==(l.length:Int))=true:=by simpa using hmm
      have hmd:decide (my=(l.length:Int))=true:=by simpa using hmm
      rw [hmd] at HQ;clear hmd;refine HT.k 8 rfl V5 aa ?_;refine HT.k 9 rfl V5 aa ?_;refine HT.k 10 rfl V5 aa ?_;refine HT.k 11 rfl V5 aa ?_;refine HT.k 12 rfl V5 aa ?_;refine HT.k 13 rfl V5 aa ?_;refine HT.k 14 rfl V5 aa ?_;refine HT.k 15 rfl V5 aa ?_;refine HT.one (i:=16) V1 rfl (fun K hK=>?_);go_simp;refine HI0.out.mono ?_;rintro e w' ⟨rfl,rfl⟩;(try dsimp only);refine hK.out _ _ aa trivial ?_;clear hK K;(try simp only [HT.pS]);refine HT.k 17 rfl V5 aa ?_;refine HT.k 18 rfl V5 aa ?_;refine HT.one (i:=20) V1 rfl (fun K hK=>?_);go_simp;refine (Az.out (!p0)).mono ?_;exact V1a
     ·have hmb:(my==(l.length:Int))=false:=by simpa using hmm
      have hmd:decide (my=(l.length:Int))=false:=by simpa using hmm
      have hmn:(my != (l.length:Int))=true:=by simpa using hmm
      rw [hmd] at HQ;refine HT.k 8 rfl V5 aa ?_;refine HT.k 9 rfl V5 aa ?_;refine HT.s 10 aa ?_;refine HT.s 11 aa ?_;refine HT.s 12 aa ?_;refine HT.s 13 aa ?_;refine HT.s 14 aa ?_;refine HT.s 15 aa ?_;refine HT.s 16 aa ?_;refine HT.s 17 aa ?_;refine HT.k 18 rfl V5 aa ?_;refine HT.one (i:=20) V1 rfl (fun K hK=>?_);go_simp;refine (Az.out true).mono ?_;exact V1a
    ·have hki:(k==5)=false:=by simp;omega
     have hkd:decide (k = 5)=false:=V4;have h1:b2=b1:=by rw [<-HB2.out,hkd];cases b1 <;> rfl
     have HQ:=Hi h1;clear h1;go_wp2_with fail
     go_meet
     exact Hi (by rw [HQ.out];exact H1.out)
   case rest=>
    clear e0 e1 e2 e3 e4 e5 z0 z1 z2 z3 z4 z5 H1 hl9;have H2:=Hi (show AZ w _ g (.slice A0 d.aT.length c0') (.slice A1 d.var.length c1') (.slice A2 d.aN.length c2') (.slice A3 d.fn.length c3') v4 v7 v8 v9 d (orO b2 (aB (aJ d) (aD d.fn d.many) (l.take 0))) (nB k a s n A l.length cA B ps.length cB) from by rw [List.take_zero,q1Y,q40];exact hcut.out);go_wp2_with fail
    go_loopw [4] (fun vi wr=>∃ i:Nat,i<=l.length/\vi = .int .i64 (i:Int)/\Hid (AZ w wr g (.slice A0 d.aT.length c0') (.slice A1 d.var.length c1') (.slice A2 d.aN.length c2') (.slice A3 d.fn.length c3') v4 v7 v8 v9 d (orO b2 (aB (aJ d) (aD d.fn d.many) (l.take i))) (nB k a s n A l.length cA B ps.length cB))) (fun vi _=>l.length - (intOf vi).toNat)
    case atStart=>exact ⟨0,V0,rfl,H2⟩
    case round=>
     obtain ⟨i,hi,rfl,Hr⟩:=hrel;obtain ⟨⟨e0,e1,e2,e3,e4,e5⟩,z0,z1,z2,z3,z4,z5⟩:=Aa.c6 Hr.out.bx;by_cases hlt:i < l.length
     ·obtain ⟨x,hx⟩:∃ x,l[i]?=some x:=⟨_,List.getElem?_eq_getElem hlt⟩;have HBr:=Hi (Ay.out.trans (Hr.out.up.below Ay.out.size fun b hb=>V0));obtain ⟨b2',o2,k3,a3,s3,n3,A3',la3,cA3,B3,lb3,cB3,rfl,hTx,hb3,g0,g1,g2,g3,g4,g5⟩:=q0T HBr.out HL.out HS.out hx;have HC:=Hi (IH.out x (Nat.lt_of_lt_of_le (q0S hx) (Nat.le_of_lt_succ HM.out)) w0 wr g _ _ _ _ _ _ _ _ d _ k3 a3 s3 n3 A3' la3 cA3 B3 lb3 cB3 hTx HBr.out hg Hr.out.ev);rw [q3Z,<-q1b _ _ l i x hx] at HC;clear hTx hx;go_wp2_with fail
      refine HC.out.mono ?_;rintro e w2 ⟨rfl,hE2,hu2⟩;have H3:=Hi (show AZ w w2 g (.slice A0 d.aT.length c0') (.slice A1 d.var.length c1') (.slice A2 d.aN.length c2') (.slice A3 d.fn.length c3') v4 v7 v8 v9 d (orO b2 (aB (aJ d) (aD d.fn d.many) (l.take (i+1)))) (nB k a s n (some ⟨b2',o2,none⟩) l.length cA B ps.length cB) from ⟨hE2,Hr.out.up.trans hu2,Hr.out.bx.upd hu2 hne⟩);exact V1s
     ·have Ac:=Hi (show ExR w g (.slice A0 d.aT.length c0') (.slice A1 d.var.length c1') (.slice A2 d.aN.length c2') (.slice A3 d.fn.length c3') v4 v7 v8 v9 d (orO b2 (aB (aJ d) (aD d.fn d.many) l)) (.returned (.tuple #[])) wr from ⟨rfl,by have h:=Hr.out.ev;rw [List.take_of_length_le V0] at h;exact h,Hr.out.up⟩);exact Vd
end Nm
end Go.Proofs.YtcgibpdjfgjldaaGreatDoor
