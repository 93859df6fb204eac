/- DERIVED. NmRg. By an AI agent. -/
import Derived.Test.YtcgibpdjfgjldaaGreatDoorR13
set_option maxRecDepth 100000
set_option maxHeartbeats 8000000
set_option linter.unusedVariables false
set_option linter.unusedSimpArgs false
open Go Go.ChangeShapes Go.WideShapes Go.ChangeAt Go.RowKit
namespace Go.Proofs.YtcgibpdjfgjldaaGreatDoor
namespace Nm
open Lx Args Pa Sh
def inR(d:RS)(ps:List Bs):RS:={ aT:=[],var:=ps,aN:=[],fn:=d.fn,many:=d.many,bad:=none,se:=[],pu:=[],ou:=[] }
theorem exBs_in(d:RS)(ps:List Bs)(l:List Tz):aB (aJ (inR d ps)) (aD d.fn d.many) l=aB (fun t=>ps.contains t) (aD d.fn d.many) l:=
 q1a (fun t=>by unfold aJ inR;simp) (fun _ _=>rfl) l
def inF(d:RS)(ps:List Bs)(i:Nat):Bool:=(ps.take i).any fun p=>d.fn.contains p
theorem q7A(d:RS)(ps:List Bs):inF d ps 0=false:=by simp [inF]
theorem q7B{d:RS}{ps:List Bs}{i:Nat}{x:Bs}(h:ps[i]?=some x):inF d ps (i+1)=(inF d ps i || d.fn.contains x):=by
 unfold inF;have e:ps.take (i+1)=ps.take i ++ [x]:=V21;rw [e,List.any_append];simp only [List.any_cons,List.any_nil,Bool.or_false]
theorem q3x(d:RS)(ps:List Bs):inF d ps ps.length=ps.any fun p=>d.fn.contains p:=by
 unfold inF;rw [List.take_length]
theorem q7C(o:Option Int)(c c':Bool)(a:Int):bT (bT o c a) c' a=bT o (c || c') a:=by
 cases o with
 | some b=>rfl
 | none=>cases c <;> cases c' <;> rfl
theorem q5z(o:Option Int)(a:Int):bT o false a=o:=by cases o <;> rfl
theorem AZ.belowG{w wx wy:World}{g:Nat}{v0 v1 v2 v3 v4 v7 v8 v9:Value}{d:RS}{b:Option Int}{cs:Array Value}(h:AZ w wx g v0 v1 v2 v3 v4 v7 v8 v9 d b cs)(hb:Below wx.heap.size wx wy):AZ w wy g v0 v1 v2 v3 v4 v7 v8 v9 d b cs:=
 ⟨h.ev.below hb,h.up.trans (Upd.of_below hb _),h.bx.below hb h.bx.lt⟩
theorem StL.other{w w':World}{g g':Nat}{v:Value}{l:List Bs}(h:StL w g v l)(hb:Below w.heap.size w w')(hg:w.heap.size<=g'):StL w' g' v l:=by
 obtain ⟨A,c,h1,h2,h3,h4⟩:=h;refine ⟨A,c,h1,h2.below hb,h3,fun b o e hl=>?_⟩;obtain ⟨x,hx⟩:∃ x,l[0]?=some x:=by
  exact V45
 have t:(l.map ai)[0]?=some (ai x):=V03;obtain ⟨b',o',e',hlt,_⟩:=h2.at_ t;rw [e] at e';cases e';omega
theorem InL.other{w w':World}{g g':Nat}{v:Value}{l:List Nat}(h:InL w g v l)(hb:Below w.heap.size w w')(hg:w.heap.size<=g'):InL w' g' v l:=by
 obtain ⟨A,c,h1,h2,h3,h4⟩:=h;refine ⟨A,c,h1,h2.below hb,h3,fun b o e hl=>?_⟩;obtain ⟨x,hx⟩:∃ x,l[0]?=some x:=by
  exact V45
 have t:(l.map intV)[0]?=some (intV x):=V03;obtain ⟨b',o',e',hlt,_⟩:=h2.at_ t;rw [e] at e';cases e';omega
theorem infoI:(Tryz.prog.info? 3).map (fun i=>(i.zero,i.size,i.bytes))=some (some (.int .i64 0),1,8):=V1
theorem RvI.row34{N:Nat->Prop}{lo:Nat}{w wx:World}{g:Nat}{v:Nat->Value}{cs:Array Value}{d:RS}{m m':Nat}(h:RvI N lo w g v cs d m wx){w8:World}{u3 u4:Value}{s:Bs}{q:Nat}(hu:Upd (fun b=>(v 3).ownBlock=some b\/(v 4).ownBlock=some b) wx w8)
  (h3:w8.ownsRow lo 9 1 u3 (d.fn.length+1) (d.fn.map ai ++ [ai s])) (h4:w8.ownsRow lo 3 1 u4 (d.many.length+1) (d.many.map intV ++ [intV q]))
  (ha3:u3.ownBlock=(v 3).ownBlock\/∃ b,u3.ownBlock=some b/\wx.heap.size<=b) (ha4:u4.ownBlock=(v 4).ownBlock\/∃ b,u4.ownBlock=some b/\wx.heap.size<=b) (h34:∀ b,u3.ownBlock=some b->u4.ownBlock≠some b) (hm:m+1<=m') :
  RvI N lo w g (cK (cK v 3 u3) 4 u4) cs { d with fn:=d.fn ++ [s],many:=d.many ++ [q] } m' ((w8.setCell ⟨g,3,none⟩ u3).setCell ⟨g,4,none⟩ u4):=by
 obtain ⟨ba,hb,aL⟩:=h.rv.blk;have hbx:=h.bx.lt;have hgl:=h.rv.lt;have hs:Upd (fun b=>b=g) w8 ((w8.setCell ⟨g,3,none⟩ u3).setCell ⟨g,4,none⟩ u4):=((Upd.refl (fun b=>b=g) w8).setCell (p:=⟨g,3,none⟩) (fun _=>rfl) u3).setCell (p:=⟨g,4,none⟩) (fun _=>rfl) u4;have far34:∀ (u:Value) (i:Nat),i < 8->(u.ownBlock=(v i).ownBlock\/∃ b,u.ownBlock=some b/\wx.heap.size<=b)->u.ownBlock≠some g:=fun u i hi hu e=>by
  rcases hu with h1 | ⟨b,h1,h2⟩
  ·exact h.rv.far i hi (by rw [<-h1];exact e)
  ·rw [h1] at e;cases e;omega
 have dis34:∀ (u:Value) (i j:Nat),i < 8->j < 8->i≠j->(u.ownBlock=(v i).ownBlock\/∃ b,u.ownBlock=some b/\wx.heap.size<=b)->∀ b,u.ownBlock=some b->(v j).ownBlock≠some b:=fun u i j hi hj hij hu b hb hv=>by
  rcases hu with h1 | ⟨b',h1,h2⟩
  ·exact h.rv.dis i j hi hj hij b (by rw [<-h1];exact hb) hv
  ·rw [h1] at hb;cases hb;have:=(av (h.rv.own j hj) _ hv).2;omega
 have in34:∀ (u:Value) (i:Nat),i < 8->(u.ownBlock=(v i).ownBlock\/∃ b,u.ownBlock=some b/\wx.heap.size<=b)->∀ b,u.ownBlock=some b->(N b/\b < w.heap.size)\/w.heap.size < b:=fun u i hi hu b hb=>by
  rcases hu with h1 | ⟨b',h1,h2⟩
  ·exact h.rv.bY.2 i hi b (by rw [<-h1];exact hb)
  ·rw [h1] at hb;cases hb;exact .inr V0
 have hcase:∀ j,j < 8->∀ b,(cK (cK v 3 u3) 4 u4 j).ownBlock=some b->(j = 3/\u3.ownBlock=some b)\/(j = 4/\u4.ownBlock=some b)\/(j≠3/\j≠4/\(v j).ownBlock=some b):=fun j hj b hb=>by
  unfold cK at hb;by_cases h4:j = 4
  ·rw [if_pos h4] at hb;exact .inr (.inl ⟨h4,hb⟩)
  ·rw [if_neg h4] at hb;by_cases h3:j = 3
   ·rw [if_pos h3] at hb;exact .inl ⟨h3,hb⟩
   ·rw [if_neg h3] at hb;exact .inr (.inr ⟨h3,h4,hb⟩)
 have hbk:Aa w8 g 70 #[v 0,v 1,v 2,v 3,v 4,.int .i64 ba,.bool d.bad.isSome,v 5,v 6,v 7]:=hb.upd hu fun e=>e.elim (h.rv.far 3 V2) (h.rv.far 4 V2)
 have hlen:=h.rv.len;have hle3:d.fn.length<=m:=h.le 3 V2;have hle4:d.many.length<=m:=h.le 4 V2;refine ⟨⟨⟨ba,(hbk.set 3 u3).set 4 u4,aL⟩,fun j hj=>?_,fun j k hj hk hjk b hjb hkb=>?_,fun j hj e=>?_,⟨h.rv.bY.1,fun j hj b hjb=>?_⟩,⟨h.rv.low.1,?_⟩,by simp [hlen]⟩,fun j hj=>?_,?_,?_⟩
 ·have h8:j = 3\/j = 4\/(j≠3/\j≠4):=by omega
  rcases h8 with rfl | rfl | ⟨hj3,hj4⟩
  ·show World.ownsRow _ lo 9 1 u3 (d.fn ++ [s]).length ((d.fn ++ [s]).map ai);rw [List.length_append,List.map_append];exact ae h3 hs fun b hb e=>far34 u3 3 V2 ha3 Ve
  ·show World.ownsRow _ lo 3 1 u4 (d.many ++ [q]).length ((d.many ++ [q]).map intV);rw [List.length_append,List.map_append];exact ae h4 hs fun b hb e=>far34 u4 4 V2 ha4 Ve
  ·have e1:cK (cK v 3 u3) 4 u4 j=v j:=by unfold cK;rw [if_neg hj4,if_neg hj3]
   have e2:rvN { d with fn:=d.fn ++ [s],many:=d.many ++ [q] } j=rvN d j/\rvX { d with fn:=d.fn ++ [s],many:=d.many ++ [q] } j=rvX d j:=by
    have h8:j = 0\/j = 1\/j = 2\/j = 5\/j = 6\/j = 7:=V0;rcases h8 with rfl | rfl | rfl | rfl | rfl | rfl <;> exact ⟨rfl,rfl⟩
   rw [e1,e2.1,e2.2];exact ae (ae (h.rv.own j hj) hu fun b hb e=>e.elim (fun e=>h.rv.dis j 3 hj V2 hj3 b hb e) fun e=>h.rv.dis j 4 hj V2 hj4 b hb e) hs fun b hb e=>h.rv.far j hj Ve
 ·rcases hcase j hj b hjb with ⟨rfl,h1⟩ | ⟨rfl,h1⟩ | ⟨hj3,hj4,h1⟩ <;> rcases hcase k hk b hkb with ⟨rfl,h2⟩ | ⟨rfl,h2⟩ | ⟨hk3,hk4,h2⟩
  ·exact hjk rfl
  ·exact h34 b h1 h2
  ·exact dis34 u3 3 k V2 hk (Ne.symm hk3) ha3 b h1 h2
  ·exact h34 b h2 h1
  ·exact hjk rfl
  ·exact dis34 u4 4 k V2 hk (Ne.symm hk4) ha4 b h1 h2
  ·exact dis34 u3 3 j V2 hj (Ne.symm hj3) ha3 b h2 h1
  ·exact dis34 u4 4 j V2 hj (Ne.symm hj4) ha4 b h2 h1
  ·exact h.rv.dis j k hj hk hjk b h1 h2
 ·rcases hcase j hj g e with ⟨rfl,h1⟩ | ⟨rfl,h1⟩ | ⟨hj3,hj4,h1⟩
  ·exact far34 u3 3 V2 ha3 h1
  ·exact far34 u4 4 V2 ha4 h1
  ·exact h.rv.far j hj h1
 ·rcases hcase j hj b hjb with ⟨rfl,h1⟩ | ⟨rfl,h1⟩ | ⟨hj3,hj4,h1⟩
  ·exact in34 u3 3 V2 ha3 b h1
  ·exact in34 u4 4 V2 ha4 b h1
  ·exact h.rv.bY.2 j hj b h1
 ·have:=hs.size;have:=hu.size;have:=h.rv.low.2;omega
 ·have h8:j = 0\/j = 1\/j = 2\/j = 3\/j = 4\/j = 5\/j = 6\/j = 7:=by omega
  have hj':=h.le j hj;rcases h8 with rfl | rfl | rfl | rfl | rfl | rfl | rfl | rfl
  ·exact V0a
  ·exact V0a
  ·exact V0a
  ·show (d.fn ++ [s]).length<=m';rw [List.length_append];show d.fn.length+1<=m';omega
  ·show (d.many ++ [q]).length<=m';rw [List.length_append];show d.many.length+1<=m';omega
  ·exact V0a
  ·exact V0a
  ·exact V0a
 ·refine dm h.up ((hu.mono (Y:=fun b=>((v 3).ownBlock=some b\/(v 4).ownBlock=some b)\/b=g) fun b hb=>.inl hb).trans (hs.mono fun b hb=>.inr hb)) fun b hb hlt=>?_
  rcases hb with (hb | hb) | hb
  ·rcases h.rv.bY.2 3 V2 b hb with h1 | h1
   ·exact h1.1
   ·omega
  ·rcases h.rv.bY.2 4 V2 b hb with h1 | h1
   ·exact h1.1
   ·omega
  ·rcases h.rv.bY.1 with h1 | h1
   ·rw [hb];exact h1.1
   ·omega
 ·exact (h.bx.upd hu fun e=>e.elim (h.notv 3 V2) (h.notv 4 V2)).upd hs h.notg
theorem rst12(w0 w:World)(N:Nat->Prop)(lo g:Nat)(v:Nat->Value)(d:RS)(m:Nat)(a:Int)(s:Bs)(n:Nat)(A:Option Addr)(cA:Nat)(B:Option Addr)(cB:Nat)(ps:List Bs)(l:List Tz)(css:List (List Value))(hb:Below w0.heap.size w0 w)(hL:Af w0 A css.flatten)(hS:TsIz w0 l css)(hl:l.length<=maxLen)
  (hLB:Af w0 B (ps.map ai)) (hc:ps.length<=cB) (hcm:cB<=maxLen) (hN:∀ b,N b->w0.heap.size<=b) (hR:RV N lo w g v d) (hbad:d.bad=none) (hbd:∀ i,i < 8->rvN d i<=m) (hm:m+1<=1099511627776) :
  Calls Tryz.prog 31 #[.pointer (some ⟨g,0,none⟩),aO 12 a s n A l.length cA B ps.length cB] w (RStP N lo w g { d with bad:=orO (bT (bT none (nmR d s || twB ps || ps.contains s) a) (ps.any fun p=>d.fn.contains p) a) (aB (fun t=>ps.contains t) (aD d.fn d.many) l),fn:=d.fn ++ [s],many:=d.many ++ [ps.length] } (m+1)):=by
 obtain ⟨i0,hi,hz⟩:=Option.map_eq_some_iff.1 infoS;have hz0:=congrArg (·.1) hz;have hz1:=congrArg (·.2.1) hz;have hz2:=congrArg (·.2.2) hz;have HI:=Hi hi;have HZ0:=Hi hz0;have HZ1:=Hi hz1;have HZ2:=Hi hz2;clear hi hz hz0 hz1 hz2;obtain ⟨i1,hi,hz⟩:=Option.map_eq_some_iff.1 infoI;have hz0:=congrArg (·.1) hz;have hz1:=congrArg (·.2.1) hz;have hz2:=congrArg (·.2.2) hz;have HJ:=Hi hi;have HJ0:=Hi hz0;have HJ1:=Hi hz1;have HJ2:=Hi hz2;clear hi hz hz0 hz1 hz2;have hlm:l.length<=9223372036854775807:=hl;have hlp:ps.length<=9223372036854775807:=Nat.le_trans hc hcm;have hcl:cB<=9223372036854775807:=hcm;obtain ⟨wn,hwn,hbn,aK,hsn⟩:=dw w (nB 12 a s n A l.length cA B ps.length cB);have hgw:=hR.lt;have hne:¬ w.heap.size=g:=V0;have hev:=hR.ev;rw [hbad] at hev;have h0:AZ w wn g (v 0) (v 1) (v 2) (v 3) (v 4) (v 5) (v 6) (v 7) d none (nB 12 a s n A l.length cA B ps.length cB):=⟨hev.below hbn,Upd.of_below hbn _,aK⟩;have HW:=Hi hwn;have Ay:=Hi hb;have HRV:=Hi hR;have Az:=Hi hbd;have HM:=Hi hm;have HSN:=Hi hsn;obtain ⟨⟨e0,e1,e2,e3,e4,e5⟩,z0,z1,z2,z3,z4,z5⟩:=Aa.c6 aK;obtain ⟨ba,hblk,_⟩:=h0.ev.blk;obtain ⟨⟨c0,c1,c2,c3,c4,c5,c6,c7,c8,c9⟩,f5,f6⟩:=EV.c10 hblk;have hltn:=aK.lt;have H00:=Hi h0;have hg0:=hN g hR.bY.1;have HNN:=Hi hN;obtain ⟨A3,c3',hv3⟩:∃ A c,v 3 = .slice A d.fn.length c:=q07 (show w.ownsRow lo 9 1 (v 3) d.fn.length (d.fn.map ai) from hR.own 3 V2);obtain ⟨A4,c4',hv4⟩:∃ A c,v 4 = .slice A d.many.length c:=q07 (show w.ownsRow lo 3 1 (v 4) d.many.length (d.many.map intV) from hR.own 4 V2);have HV3:=Hi hv3;have HV4:=Hi hv4;clear hv3 hv4;have HL:=Hi hL;have HS:=Hi hS;have HLB:=Hi hLB;have HC:=Hi hc;have HCM:=Hi hcm;obtain ⟨dr,hdr0⟩:∃ dr,({ d with bad:=orO (bT (bT none (nmR d s || twB ps || ps.contains s) a) (ps.any fun p=>d.fn.contains p) a) (aB (fun t=>ps.contains t) (aD d.fn d.many) l),fn:=d.fn ++ [s],many:=d.many ++ [ps.length] }:RS)=dr:=⟨_,rfl⟩;rw [hdr0];have HDR:=Hi hdr0;obtain ⟨wz,hwd⟩:∃ u,wn.drew=u:=⟨_,rfl⟩;have hdr:Below wn.heap.size wn wz:=by rw [<-hwd];exact Below.drew (Below.refl _ _)
 have hz:=h0.belowG hdr;have aa:=hz.ez;have HZZ:=Hi hz;have HI0:=Hi (q1L s wz g _ _ hz.ev.aT);have HI1:=Hi (q1L s wz g _ _ hz.ev.var);have HI2:=Hi (q1L s wz g _ _ hz.ev.aN);have HI3:=Hi (q1L s wz g _ _ hz.ev.fn);have hbz:=hb.trans ((hbn.trans (hdr.mono hbn.size)).mono hb.size);have HTW:=Hi (twice_ wz _ cB ps (hLB.below hbz) hc hcm);have HIP:Hid (∀ wx,Below wz.heap.size wz wx->Calls Tryz.prog 52 #[.slice B ps.length cB,.string ⟨s.toArray⟩] wx fun e w'=>e = .returned (.bool (ps.contains s))/\wx=w'):=Hi fun wx hbx=>by
  have h:=q51 B cB ps ⟨s.toArray⟩ wx (hLB.below (hbz.trans (hbx.mono hbz.size))) (Nat.le_trans hc hcm);rw [show (ByteArray.mk s.toArray).data.toList=s from V3] at h;exact h
 have AA:Hid (∀ (wx:World) (q:Bool),AZ w wx g (v 0) (v 1) (v 2) (v 3) (v 4) (v 5) (v 6) (v 7) d none (nB 12 a s n A l.length cA B ps.length cB)->Calls Tryz.prog 64 #[.pointer (some ⟨g,0,none⟩),.bool q,aO 12 a s n A l.length cA B ps.length cB] wx fun e w'=>e = .returned (.tuple #[])/\AZ w w' g (v 0) (v 1) (v 2) (v 3) (v 4) (v 5) (v 6) (v 7) d (bT none q a) (nB 12 a s n A l.length cA B ps.length cB)):=Hi fun wx q hv=>hv.bad hne q
 obtain ⟨p0,hp0⟩:∃ p,d.aT.contains s=p:=⟨_,rfl⟩;obtain ⟨p1,hp1⟩:∃ p,d.var.contains s=p:=⟨_,rfl⟩;obtain ⟨p2,hp2⟩:∃ p,d.aN.contains s=p:=⟨_,rfl⟩;obtain ⟨p3,hp3⟩:∃ p,d.fn.contains s=p:=⟨_,rfl⟩;obtain ⟨p4,hp4⟩:∃ p,twB ps=p:=⟨_,rfl⟩;obtain ⟨p5,hp5⟩:∃ p,ps.contains s=p:=⟨_,rfl⟩;have hnm:(nmR d s || twB ps || ps.contains s)=(p0 || p1 || p2 || p3 || p4 || p5):=by
  show (((((d.aT.contains s || d.var.contains s) || d.aN.contains s) || d.fn.contains s) || twB ps) || ps.contains s)=_;rw [hp0,hp1,hp2,hp3,hp4,hp5]
 rw [hnm] at HDR;rw [hp0] at HI0;rw [hp1] at HI1;rw [hp2] at HI2;rw [hp3] at HI3;rw [hp4] at HTW;rw [hp5] at HIP;clear hp0 hp1 hp2 hp3 hp4 hp5 hnm hz hdr hbz;clear hN hL hS hLB hb h0 hwn hbn aK hsn hev hblk hR hbad hbd hc hcm hm hl hdr0;go_enter Tryz.func31,Tryz.ntmps31;go_upto_region 1 with fail
 rw [HW.out];go_upto_region 15 with fail
 clear e0 e1 e2 e3 e4 e5 z0 z1 z2 z3 z4 z5 c0 c1 c2 c3 c4 c5 c6 c7 c8 c9 f5 f6
 go_cut [] from 115 to 163 (fun wx=>Hid (AZ w wx g (v 0) (v 1) (v 2) (v 3) (v 4) (v 5) (v 6) (v 7) d (bT none (p0 || p1 || p2 || p3 || p4 || p5) a) (nB 12 a s n A l.length cA B ps.length cB)))
 case first=>as_aux_lemma=>
  go_wp2_with fail
  refine HT.wp_region (Z:=fun w'=>EZ w w' g (v 0) (v 1) (v 2) (v 3) (v 4) (v 5) (v 6) (v 7) (nB 12 a s n A l.length cA B ps.length cB)) (S:=fun _=>True) (st:=[]) V1 ?_;rw [hwd];clear hwd;refine HT.m 0 aa ?_;refine HT.m 1 aa ?_;refine HT.m 2 aa ?_;refine HT.m 3 aa ?_;refine HT.k 4 rfl V5 aa ?_;refine HT.m 5 aa ?_;refine HT.k 6 rfl Vi aa ?_;refine HT.k 47 rfl Vi aa ?_;refine HT.one (i:=7) V1 rfl (fun K hK=>?_);go_simp;refine HI0.out.mono ?_;rintro e w' ⟨rfl,rfl⟩;(try dsimp only);refine hK.out _ _ aa trivial ?_;clear hK K;(try simp only [HT.pS]);cases p0 with
  | true=>as_aux_lemma=>
   refine HT.m 8 aa ?_;refine HT.s 9 aa ?_;refine HT.s 10 aa ?_;refine HT.s 11 aa ?_;refine HT.s 12 aa ?_;refine HT.s 13 aa ?_;refine HT.s 14 aa ?_;refine HT.s 15 aa ?_;exact V30
  | false=>as_aux_lemma=>
   refine HT.m 8 aa ?_;refine HT.m 9 aa ?_;refine HT.m 10 aa ?_;refine HT.m 11 aa ?_;refine HT.k 12 rfl V5 aa ?_;refine HT.m 13 aa ?_;refine HT.k 14 rfl Vi aa ?_;refine HT.one (i:=15) V1 rfl (fun K hK=>?_);go_simp;refine HI1.out.mono ?_;rintro e w' ⟨rfl,rfl⟩;(try dsimp only);refine hK.out _ _ aa trivial ?_;clear hK K;(try simp only [HT.pS]);cases p1 with
   | true=>as_aux_lemma=>
    exact V30
   | false=>as_aux_lemma=>
    refine HT.m 16 aa ?_;refine HT.m 17 aa ?_;refine HT.m 18 aa ?_;refine HT.m 19 aa ?_;refine HT.m 20 aa ?_;refine HT.k 21 rfl V5 aa ?_;refine HT.m 22 aa ?_;refine HT.k 23 rfl Vi aa ?_;refine HT.one (i:=24) V1 rfl (fun K hK=>?_);go_simp;refine HI2.out.mono ?_;rintro e w' ⟨rfl,rfl⟩;(try dsimp only);refine hK.out _ _ aa trivial ?_;clear hK K;(try simp only [HT.pS]);cases p2 with
    | true=>as_aux_lemma=>
     exact V2n
    | false=>as_aux_lemma=>
     refine HT.m 25 aa ?_;refine HT.m 26 aa ?_;refine HT.m 27 aa ?_;refine HT.m 28 aa ?_;refine HT.m 29 aa ?_;refine HT.k 30 rfl V5 aa ?_;refine HT.m 31 aa ?_;refine HT.k 32 rfl Vi aa ?_;refine HT.one (i:=33) V1 rfl (fun K hK=>?_);go_simp;refine HI3.out.mono ?_;rintro e w' ⟨rfl,rfl⟩;(try dsimp only);refine hK.out _ _ aa trivial ?_;clear hK K;(try simp only [HT.pS]);cases p3 with
     | true=>as_aux_lemma=>
      refine HT.m 34 aa ?_;refine HT.m 35 aa ?_;refine HT.s 36 aa ?_;refine HT.s 37 aa ?_;refine HT.s 38 aa ?_;exact V2o
     | false=>as_aux_lemma=>
      refine HT.m 34 aa ?_;refine HT.m 35 aa ?_;refine HT.m 36 aa ?_;refine HT.k 37 rfl Vi aa ?_;refine HT.one (i:=38) V1 rfl (fun K hK=>?_);go_simp;refine HTW.out.mono ?_;rintro e w' ⟨rfl,hbT⟩;have HBT:=Hi hbT;have hzT:=HZZ.out.belowG hbT;clear HZZ aa;have HZZ:=Hi hzT;have aa:=hzT.ez;clear hzT hbT;(try dsimp only);refine hK.out _ _ aa trivial ?_;clear hK K;(try simp only [HT.pS]);cases p4 with
      | true=>as_aux_lemma=>
       exact V2o
      | false=>as_aux_lemma=>
       refine HT.m 39 aa ?_;refine HT.m 40 aa ?_;refine HT.m 41 aa ?_;refine HT.k 42 rfl Vi aa ?_;refine HT.m 43 aa ?_;refine HT.k 44 rfl Vi aa ?_;refine HT.one (i:=45) V1 rfl (fun K hK=>?_);go_simp;refine (HIP.out _ HBT.out).mono ?_;rintro e w' ⟨rfl,rfl⟩;(try dsimp only);refine hK.out _ _ aa trivial ?_;clear hK K;(try simp only [HT.pS]);refine HT.m 46 aa ?_;refine HT.one (i:=48) V1 rfl (fun K hK=>?_);go_simp;refine (AA.out _ p5 HZZ.out).mono ?_;exact Vq
 case rest=>
  clear H00 aa HZZ HI0 HI1 HI2 HI3 HTW HIP AA hwd;generalize wc=wA at hcut ⊢;obtain ⟨b1,hb1⟩:∃ b,bT none (p0 || p1 || p2 || p3 || p4 || p5) a=b:=⟨_,rfl⟩;rw [hb1] at hcut HDR;have H2:=Hi (show AZ w wA g (v 0) (v 1) (v 2) (v 3) (v 4) (v 5) (v 6) (v 7) d (bT b1 (inF d ps 0) a) (nB 12 a s n A l.length cA B ps.length cB) from by rw [q7A,q5z];exact hcut.out);clear hcut hb1;go_upto_region 17 with fail
  go_loopw [6] (fun vi wr=>∃ i:Nat,i<=ps.length/\vi = .int .i64 (i:Int)/\Hid (AZ w wr g (v 0) (v 1) (v 2) (v 3) (v 4) (v 5) (v 6) (v 7) d (bT b1 (inF d ps i) a) (nB 12 a s n A l.length cA B ps.length cB))) (fun vi _=>ps.length - (intOf vi).toNat)
  case atStart=>exact ⟨0,V0,rfl,H2⟩
  case round=>
   clear H2;obtain ⟨i,hi,rfl,Hr⟩:=hrel;obtain ⟨⟨e0,e1,e2,e3,e4,e5⟩,z0,z1,z2,z3,z4,z5⟩:=Aa.c6 Hr.out.bx;obtain ⟨ba,hbk,aL⟩:=Hr.out.ev.blk;obtain ⟨⟨c0,c1,c2,c3,c4,c5,c6,c7,c8,c9⟩,f5,f6⟩:=EV.c10 hbk;have hgr:=hbk.lt;by_cases hlt:i < ps.length
   ·obtain ⟨x,hx⟩:∃ x,ps[i]?=some x:=⟨_,List.getElem?_eq_getElem hlt⟩;have t2:(ps.map ai)[i]?=some (.string ⟨x.toArray⟩):=V03;have hil:(i:Int) < (ps.length:Int):=V0;have HBr:=Hi (Ay.out.trans (Hr.out.up.below Ay.out.size fun b hb=>V0));have hLr:=HLB.out.below HBr.out;obtain ⟨bB,oB,rfl,hbB,hcB2⟩:=hLr.at_ t2;have g0:=hcB2 _ _ t2;have HX:=Hi (q7B (d:=d) hx);have hdr:Below wr.heap.size wr wr.drew:=Below.drew (Below.refl _ _);have hz:=Hr.out.belowG hdr;have HIN:=Hi (q1L x wr.drew g _ _ hz.ev.fn);obtain ⟨q,hq⟩:∃ q,d.fn.contains x=q:=⟨_,rfl⟩;rw [hq] at HIN;have HQ:=Hi hq;clear hbk aL hLr hcB2 t2 hx hq;go_upto_region 19 with fail
    go_still_tail 12,V1
    still_call (HIN.out.mono fun e w' h=>⟨h.1,h.2.symm⟩)
    repeat still_step
    refine wpStill_nil ?_;change wpList _ _ _ _ _ wr.drew;generalize wr.drew=wz at hz hdr ⊢;have HCA:=Hi (hz.bad hne q);clear hz hdr e0 e1 e2 e3 e4 e5 z0 z1 z2 z3 z4 z5 c0 c1 c2 c3 c4 c5 c6 c7 c8 c9 f5 f6 g0 hgr HIN;go_wp2_with fail
    refine HCA.out.mono ?_;rintro e w2 ⟨rfl,hE2⟩;have H3:=Hi (show AZ w w2 g (v 0) (v 1) (v 2) (v 3) (v 4) (v 5) (v 6) (v 7) d (bT b1 (inF d ps (i+1)) a) (nB 12 a s n A l.length cA (some ⟨bB,oB,none⟩) ps.length cB) from by
     rw [HX.out,<-q7C,HQ.out];exact hE2)
    clear hE2 HCA;exact V1f
   ·obtain rfl:i=ps.length:=by omega
    have hfull:=Hr.out;rw [q3x] at hfull;obtain ⟨b2,hb2⟩:∃ b,bT b1 (ps.any fun p=>d.fn.contains p) a=b:=⟨_,rfl⟩;rw [hb2] at hfull HDR;have hba2:∀ a',b2=some a'->ba=a':=fun a' ha=>aL a' (by rw [q3x,hb2];exact ha)
    have hc6:wr.cell? ⟨g,6,none⟩=some (.bool b2.isSome):=by rw [c6,q3x,hb2]
    rw [HV3.out] at c3;rw [HV4.out] at c4;clear c6 f5 f6 hb2;have hdr:Below wr.heap.size wr wr.drew:=Below.drew (Below.refl _ _);obtain ⟨wy,hwd⟩:∃ u,wr.drew=u:=⟨_,rfl⟩;have hdr':Below wr.heap.size wr wy:=by rw [<-hwd];exact hdr
    have hy:=hfull.belowG hdr';have HY:=Hi hy;obtain ⟨gi,hgi⟩:∃ b,wy.heap.size=b:=⟨_,rfl⟩;obtain ⟨wq,hwq,hbq,-⟩:=aS wy #[(.slice none 0 0),.slice B ps.length cB,(.slice none 0 0),(.slice A3 d.fn.length c3'),(.slice A4 d.many.length c4'),.int .i64 ba,.bool b2.isSome,(.slice none 0 0),(.slice none 0 0),(.slice none 0 0)] 70;have hkq:Aa wq gi 70 #[(.slice none 0 0),.slice B ps.length cB,(.slice none 0 0),(.slice A3 d.fn.length c3'),(.slice A4 d.many.length c4'),.int .i64 ba,.bool b2.isSome,(.slice none 0 0),(.slice none 0 0),(.slice none 0 0)]:=by rw [<-hwq,<-hgi];exact Aa.new _ _ _
    have hB0q:=(Ay.out.trans (hy.up.below Ay.out.size fun b hb=>V0));have hgiw:w0.heap.size<=gi:=by have:=hB0q.size;omega
    have hEI:EV wq gi (.slice none 0 0) (.slice B ps.length cB) (.slice none 0 0) (.slice A3 d.fn.length c3') (.slice A4 d.many.length c4') (.slice none 0 0) (.slice none 0 0) (.slice none 0 0) (inR d ps) b2:=by
     refine ⟨⟨ba,hkq,hba2⟩,⟨none,0,rfl,Af.nil _ _,Nat.zero_le _,fun _ _ h _=>VX⟩,⟨B,cB,rfl,HLB.out.below (hB0q.trans (hbq.mono hB0q.size)),Nat.le_trans HC.out HCM.out,fun b o e hl=>?_⟩,⟨none,0,rfl,Af.nil _ _,Nat.zero_le _,fun _ _ h _=>VX⟩,HV3.out ▸ hy.ev.fn.other hbq V0,HV4.out ▸ hy.ev.many.other hbq V0,hy.ev.len⟩;obtain ⟨x,hx⟩:∃ x,ps[0]?=some x:=by
      cases ps with
      | nil=>exact absurd rfl hl
      | cons x l=>exact ⟨x,rfl⟩
     have t:(ps.map ai)[0]?=some (ai x):=V03;obtain ⟨b',o',e',hlt',_⟩:=HLB.out.at_ t;rw [e] at e';cases e';omega
    have HEI0:=Hi (show EV wq gi (.slice none 0 0) (.slice B ps.length cB) (.slice none 0 0) (.slice A3 d.fn.length c3') (.slice A4 d.many.length c4') (.slice none 0 0) (.slice none 0 0) (.slice none 0 0) (inR d ps) (orO b2 (aB (aJ (inR d ps)) (aD d.fn d.many) (l.take 0)))/\Upd (fun b=>b=gi) wq wq from by
     rw [List.take_zero,q1Y,q40];exact ⟨hEI,Upd.refl _ _⟩)
    have HBQ:=Hi hbq;have HWQ:=Hi hwq;have HGI:=Hi hgi;have HB0:=Hi (hB0q.trans (hbq.mono hB0q.size));have HGG:=Hi (show g < gi/\w.heap.size < gi from ⟨by have:=hy.ev.lt;omega,by have:=hy.bx.lt;omega⟩);have HWD:=Hi hwd;clear hfull hba2 hdr hdr' hy hgi hwq hbq hkq hB0q hEI Hr aL hbk hwd;go_upto_region 20 with fail
    go_still_tail 19,V1
    change wpList _ _ _ _ _ wr.drew;rw [HWD.out];clear hgr e0 e1 e2 e3 e4 e5 z0 z1 z2 z3 z4 z5 c0 c1 c2 c3 c4 c5 hc6 c7 c8 c9;go_upto_region 22 with fail
    rw [HWQ.out];rw [HGI.out]
    go_loopw [8] (fun vi wr=>∃ i:Nat,i<=l.length/\vi = .int .i64 (i:Int)/\Hid (EV wr gi (.slice none 0 0) (.slice B ps.length cB) (.slice none 0 0) (.slice A3 d.fn.length c3') (.slice A4 d.many.length c4') (.slice none 0 0) (.slice none 0 0) (.slice none 0 0) (inR d ps) (orO b2 (aB (aJ (inR d ps)) (aD d.fn d.many) (l.take i)))/\Upd (fun b=>b=gi) wq wr)) (fun vi _=>l.length - (intOf vi).toNat)
    case atStart=>exact ⟨0,V0,rfl,HEI0⟩
    case round=>
     clear HEI0;obtain ⟨j,hj,rfl,Hq⟩:=hrel;have hbxr:=(HY.out.bx.below HBQ.out HY.out.bx.lt).upd Hq.out.2 (fun e=>by have:=HGG.out.2;omega);obtain ⟨⟨e0,e1,e2,e3,e4,e5⟩,z0,z1,z2,z3,z4,z5⟩:=Aa.c6 hbxr;have hltn2:=hbxr.lt;by_cases hjl:j < l.length
     ·obtain ⟨x,hx⟩:∃ x,l[j]?=some x:=⟨_,List.getElem?_eq_getElem hjl⟩;have HBr:=Hi (HB0.out.trans (Hq.out.2.below HB0.out.size fun b hb=>V0));obtain ⟨b2',o2,k3,a3,s3,n3,A3',la3,cA3,B3,lb3,cB3,rfl,hTx,hb3,g0,g1,g2,g3,g4,g5⟩:=q0T HBr.out HL.out HS.out hx;have HCE:=Hi (expr_ (SizeOf.sizeOf x+1) x (Nat.lt_succ_self _) w0 wr gi _ _ _ _ _ _ _ _ (inR d ps) _ k3 a3 s3 n3 A3' la3 cA3 B3 lb3 cB3 hTx HBr.out hgiw Hq.out.1);rw [q3Z,show (aJ (inR d ps))=aJ (inR d ps) from rfl,show aD (inR d ps).fn (inR d ps).many=aD d.fn d.many from rfl,<-q1b _ _ l j x hx] at HCE;clear hTx hx hbxr;go_wp2_with fail
      refine HCE.out.mono ?_;rintro e w2 ⟨rfl,hE2,hu2⟩;have H3:=Hi (show EV w2 gi (.slice none 0 0) (.slice B ps.length cB) (.slice none 0 0) (.slice A3 d.fn.length c3') (.slice A4 d.many.length c4') (.slice none 0 0) (.slice none 0 0) (.slice none 0 0) (inR d ps) (orO b2 (aB (aJ (inR d ps)) (aD d.fn d.many) (l.take (j+1))))/\Upd (fun b=>b=gi) wq w2 from ⟨hE2,Hq.out.2.trans hu2⟩);clear hE2 hu2 HCE e0 e1 e2 e3 e4 e5 z0 z1 z2 z3 z4 z5 g0 g1 g2 g3 g4 g5;exact V3u
     ·have hfI:=Hq.out.1;rw [List.take_of_length_le V0,exBs_in] at hfI;obtain ⟨bf,hbf⟩:∃ b,orO b2 (aB (fun t=>ps.contains t) (aD d.fn d.many) l)=b:=⟨_,rfl⟩;rw [hbf] at hfI HDR;obtain ⟨bi,hki,hbi⟩:=hfI.blk;have hdr:Below wr.heap.size wr wr.drew:=Below.drew (Below.refl _ _);obtain ⟨wz,hwd⟩:∃ u,wr.drew=u:=⟨_,rfl⟩;rw [hwd] at hdr;have hyz:Upd (fun _=>False) wy wz:=(((Upd.of_below HBQ.out (fun b=>b=gi)).trans Hq.out.2).trans (Upd.of_below hdr _)).fresh fun b hb hs=>by have:=HGI.out;omega
      have HKI:=Hi (hki.below hdr hki.lt);have HYZ:=Hi hyz;have aa:Upd (fun b=>b=g) wz wz:=Upd.refl _ _;have HBI:=Hi hbi;obtain ⟨bz,hbz,_⟩:=HY.out.ev.blk;have HBZ:=Hi (hbz.upd hyz fun h=>h);have hgig:¬ gi=g:=by have:=HGG.out.1;omega
      clear hfI hbf hki hbi hdr hyz hbxr hbz;go_upto_region 25 with fail
      clear Hq e0 e1 e2 e3 e4 e5 z0 z1 z2 z3 z4 z5
      go_cut [] from 218 to 231 (fun wx=>Hid (AZ w wx g (v 0) (v 1) (v 2) (v 3) (v 4) (v 5) (v 6) (v 7) d bf (nB 12 a s n A l.length cA B ps.length cB)))
      case first=>as_aux_lemma=>
       go_wp2_with fail
       refine HT.wp_region (Z:=fun w'=>Upd (fun b=>b=g) wz w') (S:=fun _=>True) (st:=[]) V1 ?_;rw [hwd];clear hwd;refine HT.m 0 aa ?_;refine HT.m 1 aa ?_;refine HT.m 2 aa ?_;refine HT.m 3 aa ?_;refine HT.m 4 aa ?_;refine HT.k 5 rfl V3C aa ?_;refine HT.m 6 aa ?_;refine HT.m 7 aa ?_;refine HT.m 8 aa ?_;refine HT.k 9 rfl V3C aa ?_;refine HT.m 10 aa ?_;refine HT.m 11 aa ?_;obtain ⟨⟨c0,c1,c2,c3,c4,c5,c6,c7,c8,c9⟩,f5,f6⟩:=EV.c10 HBZ.out;have hgz:=HBZ.out.lt;refine HT.one (i:=12) V1 rfl (fun K hK=>?_);go_simp;have hu1:Upd (fun b=>b=g) wz (wz.setCell ⟨g,6,none⟩ (.bool bf.isSome)):=aa.setCell (p:=⟨g,6,none⟩) (fun _=>rfl) _;have hB1:=HBZ.out.set 6 (.bool bf.isSome);(try dsimp only);refine hK.out _ _ hu1 trivial ?_;clear hK K;(try simp only [HT.pS]);refine HT.m 13 hu1 ?_;refine HT.m 14 hu1 ?_;clear c0 c1 c2 c3 c4 c5 c6 c7 c8 c9 f5 f6;obtain ⟨⟨c0,c1,c2,c3,c4,c5,c6,c7,c8,c9⟩,f5,f6⟩:=EV.c10 (show Aa (wz.setCell ⟨g,6,none⟩ (.bool bf.isSome)) g 70 #[v 0,v 1,v 2,v 3,v 4,.int .i64 bz,.bool bf.isSome,v 5,v 6,v 7] from hB1);have hg1:=hB1.lt;refine HT.one (i:=15) V1 rfl (fun K hK=>?_);go_simp;have hu2:=hu1.setCell (p:=⟨g,5,none⟩) (fun _=>rfl) (.int .i64 bi);have hB2:=(show Aa (wz.setCell ⟨g,6,none⟩ (.bool bf.isSome)) g 70 #[v 0,v 1,v 2,v 3,v 4,.int .i64 bz,.bool bf.isSome,v 5,v 6,v 7] from hB1).set 5 (.int .i64 bi);(try dsimp only);refine hK.out _ _ hu2 trivial ?_;clear hK K;(try simp only [HT.pS]);refine HT.done V1 ?_;have huy:=(HYZ.out.mono (Y:=fun b=>b=g) fun _ h=>h.elim).trans hu2;have hev:=HY.out.ev;have Ac:=Hi (show AZ w ((wz.setCell ⟨g,6,none⟩ (.bool bf.isSome)).setCell ⟨g,5,none⟩ (.int .i64 bi)) g (v 0) (v 1) (v 2) (v 3) (v 4) (v 5) (v 6) (v 7) d bf (nB 12 a s n A l.length cA B ps.length cB) from
        ⟨⟨⟨bi,hB2,HBI.out⟩,hev.aT.upd huy,hev.var.upd huy,hev.aN.upd huy,hev.fn.upd huy,hev.many.upd huy,hev.len⟩,HY.out.up.trans huy,HY.out.bx.upd huy hne⟩)
       clear hu1 hu2 hB1 hB2 huy hev c0 c1 c2 c3 c4 c5 c6 c7 c8 c9 f5 f6 hgz hg1 aa;go_wp2_with fail
       go_meet
       exact Ac
      case rest=>
       have HV:=Hi (RvI.of_ea HRV.out Az.out hcut.out);clear hcut aa hwd;generalize wc=wB at HV ⊢;go_upto_region 26 with fail
       as_aux_lemma=>
        have hdr:Below wB.heap.size wB wB.drew:=Below.drew (Below.refl _ _);obtain ⟨wy2,hwd⟩:∃ u,wB.drew=u:=⟨_,rfl⟩;rw [hwd] at hdr;have HY2:=Hi (HV.out.below hdr);clear HV hdr;obtain ⟨⟨e0,e1,e2,e3,e4,e5⟩,z0,z1,z2,z3,z4,z5⟩:=Aa.c6 HY2.out.bx;have hvl:d.fn.length<=m:=Az.out 3 V2;have hvm:d.many.length<=m:=Az.out 4 V2;have hlim:=HM.out;have hlow:lo<=wy2.heap.size:=HY2.out.rv.low.2;have hZ1:Upd (fun b=>((v 3).ownBlock=some b\/(v 4).ownBlock=some b)\/b=g) wy2 wy2:=Upd.refl _ _;have hS1:Upd (fun b=>(v 3).ownBlock=some b\/(v 4).ownBlock=some b) wy2 wy2:=Upd.refl _ _;have HNV:=Hi (show ¬ (((v 3).ownBlock=some w.heap.size\/(v 4).ownBlock=some w.heap.size)\/w.heap.size=g) from fun h=>h.elim (fun h=>h.elim (HY2.out.notv 3 V2) (HY2.out.notv 4 V2)) HY2.out.notg);have HGV:=Hi (show ¬ ((v 3).ownBlock=some g\/(v 4).ownBlock=some g) from fun h=>h.elim (HY2.out.rv.far 3 V2) (HY2.out.rv.far 4 V2));have h34o:∀ b,(v 3).ownBlock=some b->(v 4).ownBlock≠some b:=HY2.out.rv.dis 3 4 V2 V2 V2;have hb3:∀ b,(v 3).ownBlock=some b->b < wy2.heap.size:=fun b hb=>(av (HY2.out.rv.own 3 V2) b hb).2
        have hb4:∀ b,(v 4).ownBlock=some b->b < wy2.heap.size:=fun b hb=>(av (HY2.out.rv.own 4 V2) b hb).2
        have hown3:wy2.ownsRow lo 9 1 (v 3) d.fn.length (d.fn.map ai):=HY2.out.rv.own 3 V2;have bK:wy2.ownsRow lo 3 1 (v 4) d.many.length (d.many.map intV):=HY2.out.rv.own 4 V2;clear e0 e1 e2 e3 e4 e5 z0 z1 z2 z3 z4 z5;go_wp2_with fail
        refine HT.wp_region (Z:=fun w'=>Upd (fun b=>((v 3).ownBlock=some b\/(v 4).ownBlock=some b)\/b=g) wy2 w') (S:=fun w'=>Upd (fun b=>(v 3).ownBlock=some b\/(v 4).ownBlock=some b) wy2 w') (st:=[21,24]) V1 ?_;rw [hwd];clear hwd;refine HT.tm 0 rfl hZ1 (fun _=>hS1) ?_;refine HT.tm 1 rfl hZ1 (fun _=>hS1) ?_;refine HT.tm 2 rfl hZ1 (fun _=>hS1) ?_;refine HT.tm 3 rfl hZ1 (fun _=>hS1) ?_;refine HT.tm 4 rfl hZ1 (fun _=>hS1) ?_;refine HT.ts 5 rfl V2U hZ1 hS1 ?_;refine HT.tm 6 rfl hZ1 (fun _=>hS1) ?_;refine HT.tk 7 rfl V3D hZ1 (fun _=>hS1) ?_;refine HT.tm 10 rfl hZ1 (fun _=>hS1) ?_;refine HT.tm 11 rfl hZ1 (fun _=>hS1) ?_;refine HT.tm 12 rfl hZ1 (fun _=>hS1) ?_;refine HT.ts 13 rfl V2U hZ1 hS1 ?_;refine HT.tm 14 rfl hZ1 (fun _=>hS1) ?_;refine HT.tk 15 rfl V3D hZ1 (fun _=>hS1) ?_;refine HT.tm 16 rfl hZ1 (fun _=>hS1) ?_;refine HT.two (i:=8) (j:=17) V1 rfl rfl (fun K hK=>?_) (fun K hK=>?_)
        ·obtain ⟨W8,hW8⟩:∃ u,World.alloc wy2 (.cells #[.string ⟨s.toArray⟩] 9)=u:=⟨_,rfl⟩;go_simp;(try rw [hW8]);have hbl8:Below wy2.heap.size wy2 W8:=V4c;have hL8:Af W8 (some ⟨wy2.heap.size,0,none⟩) [ai s]:=by rw [<-hW8];exact q06 _ _ [ai s]
         have hge8:wy2.heap.size<=wy2.heap.size:=hZ1.size;obtain ⟨a8,ha8⟩:∃ b,wy2.heap.size=b:=⟨_,rfl⟩;rw [ha8] at hL8;(try rw [ha8]);have hZ8:=hZ1.trans (Upd.of_below hbl8 _);have hS8:=hS1.trans (Upd.of_below hbl8 _);have hown4_:=ae bK (Upd.of_below hbl8 fun _=>False) fun _ _ h=>h
         clear bK;have bK:=hown4_;clear hown4_;have hown3_:=ae hown3 (Upd.of_below hbl8 fun _=>False) fun _ _ h=>h
         clear hown3;have hown3:=hown3_;clear hown3_;(try dsimp only);refine hK.out _ _ hZ8 hS8 ?_;clear hK K;(try simp only [HT.pS]);refine HT.two (i:=9) (j:=17) V1 rfl rfl (fun K hK=>?_) (fun K hK=>?_)
         ·refine q0b rfl _ _ 24 rfl lo 9 i0 (.string ⟨#[]⟩) 1 16 Tryz.underlying24 HI.out HZ0.out HZ1.out HZ2.out rfl V2 (v 3) d.fn.length _ rfl hown3 (some ⟨a8,0,none⟩) 1 1 [ai s] rfl rfl hL8 V02 V6 V0 (by have:=hZ8.size;omega) ?_;intro r9 W9 hown9 dh hat9;obtain ⟨A9,c9',rfl⟩:=q07 hown9;have hS9:=hS8.grown dh fun b hb _=>.inl hb
          have hZ9:=hZ8.grown dh fun b hb _=>.inl (.inl hb)
          obtain ⟨z9,hz9⟩:∃ b,W8.heap.size=b:=⟨_,rfl⟩;rw [hz9] at hat9;have hge9:wy2.heap.size<=z9:=by rw [<-hz9];exact hZ8.size
          have hgs9:W8.heap.size<=W9.heap.size:=dh.size;have hown4_:=ae bK ((Upd.refl (fun b=>(v 3).ownBlock=some b) W8).grown dh fun k hk _=>hk) (fun b hb e=>h34o b e hb);clear bK;have bK:=hown4_;clear hown4_;(try dsimp only);refine hK.out _ _ hZ9 hS9 ?_;clear hK K;(try simp only [HT.pS]);obtain ⟨W17,hW17⟩:∃ u,World.alloc W9 (.cells #[.int .i64 (ps.length:Int)] 3)=u:=⟨_,rfl⟩;refine HT.one (i:=17) V1 rfl (fun K hK=>?_);go_simp;(try rw [hW17]);have hbl17:Below W9.heap.size W9 W17:=V1H;have hL17:Af W17 (some ⟨W9.heap.size,0,none⟩) [intV ps.length]:=V1I;have hge17:wy2.heap.size<=W9.heap.size:=hZ9.size;obtain ⟨a17,ha17⟩:∃ b,W9.heap.size=b:=⟨_,rfl⟩;rw [ha17] at hL17;(try rw [ha17]);have hZ17:=hZ9.trans (Upd.of_below hbl17 _);have hS17:=hS9.trans (Upd.of_below hbl17 _);have hown4_:=ae bK (Upd.of_below hbl17 fun _=>False) fun _ _ h=>h
          clear bK;have bK:=hown4_;clear hown4_;have hown9_:=ae hown9 (Upd.of_below hbl17 fun _=>False) fun _ _ h=>h
          clear hown9;have hown9:=hown9_;clear hown9_;(try dsimp only);refine hK.out _ _ hZ17 hS17 ?_;clear hK K;(try simp only [HT.pS]);refine HT.one (i:=18) V1 rfl (fun K hK=>?_);refine q0b rfl _ _ 68 rfl lo 3 i1 (.int .i64 0) 1 8 Tryz.underlying68 HJ.out HJ0.out HJ1.out HJ2.out rfl V2 (v 4) d.many.length _ rfl bK (some ⟨a17,0,none⟩) 1 1 [intV ps.length] rfl rfl hL17 (by simp [intV,Value.oneCell']) V6 V0 (by have:=hZ17.size;omega) ?_;intro r18 W18 hown18 hgrow18 hat18;obtain ⟨A18,c18',rfl⟩:=q07 hown18;have hS18:=hS17.grown hgrow18 fun b hb _=>.inr hb
          have hZ18:=hZ17.grown hgrow18 fun b hb _=>.inl (.inr hb)
          obtain ⟨z18,hz18⟩:∃ b,W17.heap.size=b:=⟨_,rfl⟩;rw [hz18] at hat18;have hge18:wy2.heap.size<=z18:=by rw [<-hz18];exact hZ17.size
          have hu9lt:=av hown9;have h9n:∀ b,(Value.slice A9 (d.fn.length+1) c9').ownBlock=some b->(v 4).ownBlock≠some b:=fun b hb e=>by
           rcases hat9 with h | h
           ·exact h34o b (by rw [<-h];exact hb) e
           ·rw [h] at hb;cases hb;have:=hb4 _ e;omega
          have hown9_:=ae hown9 ((Upd.refl (fun b=>(v 4).ownBlock=some b) W17).grown hgrow18 fun k hk _=>hk) (fun b hb e=>h9n b hb e);exact V2b
         ·obtain ⟨W17,hW17⟩:∃ u,World.alloc W8 (.cells #[.int .i64 (ps.length:Int)] 3)=u:=⟨_,rfl⟩;go_simp;(try rw [hW17]);have hbl17:Below W8.heap.size W8 W17:=V1H;have hL17:Af W17 (some ⟨W8.heap.size,0,none⟩) [intV ps.length]:=V1I;have hge17:wy2.heap.size<=W8.heap.size:=hZ8.size;obtain ⟨a17,ha17⟩:∃ b,W8.heap.size=b:=⟨_,rfl⟩;rw [ha17] at hL17;(try rw [ha17]);have hZ17:=hZ8.trans (Upd.of_below hbl17 _);have hS17:=hS8.trans (Upd.of_below hbl17 _);have hown4_:=ae bK (Upd.of_below hbl17 fun _=>False) fun _ _ h=>h
          clear bK;have bK:=hown4_;clear hown4_;have hown3_:=ae hown3 (Upd.of_below hbl17 fun _=>False) fun _ _ h=>h
          clear hown3;have hown3:=hown3_;clear hown3_;have hL8_:=hL8.below hbl17;clear hL8;have hL8:=hL8_;clear hL8_;(try dsimp only);refine hK.out _ _ hZ17 hS17 ?_;clear hK K;(try simp only [HT.pS]);refine HT.one (i:=9) V1 rfl (fun K hK=>?_);refine q0b rfl _ _ 24 rfl lo 9 i0 (.string ⟨#[]⟩) 1 16 Tryz.underlying24 HI.out HZ0.out HZ1.out HZ2.out rfl V2 (v 3) d.fn.length _ rfl hown3 (some ⟨a8,0,none⟩) 1 1 [ai s] rfl rfl hL8 V02 V6 V0 (by have:=hZ17.size;omega) ?_;intro r9 W9 hown9 dh hat9;obtain ⟨A9,c9',rfl⟩:=q07 hown9;have hS9:=hS17.grown dh fun b hb _=>.inl hb
          have hZ9:=hZ17.grown dh fun b hb _=>.inl (.inl hb)
          obtain ⟨z9,hz9⟩:∃ b,W17.heap.size=b:=⟨_,rfl⟩;rw [hz9] at hat9;have hge9:wy2.heap.size<=z9:=by rw [<-hz9];exact hZ17.size
          have hgs9:W17.heap.size<=W9.heap.size:=dh.size;have hown4_:=ae bK ((Upd.refl (fun b=>(v 3).ownBlock=some b) W17).grown dh fun k hk _=>hk) (fun b hb e=>h34o b e hb);clear bK;have bK:=hown4_;clear hown4_;have hL17_:=((Upd.refl (fun b=>(v 3).ownBlock=some b) W17).grown dh fun k hk _=>hk).lies hL17 (fun b o e _ hb=>by cases e;have:=hb3 _ hb;omega);exact V2p
        ·obtain ⟨W17,hW17⟩:∃ u,World.alloc wy2 (.cells #[.int .i64 (ps.length:Int)] 3)=u:=⟨_,rfl⟩;go_simp;(try rw [hW17]);have hbl17:Below wy2.heap.size wy2 W17:=V1H;have hL17:Af W17 (some ⟨wy2.heap.size,0,none⟩) [intV ps.length]:=V1I;have hge17:wy2.heap.size<=wy2.heap.size:=hZ1.size;obtain ⟨a17,ha17⟩:∃ b,wy2.heap.size=b:=⟨_,rfl⟩;rw [ha17] at hL17;(try rw [ha17]);have hZ17:=hZ1.trans (Upd.of_below hbl17 _);have hS17:=hS1.trans (Upd.of_below hbl17 _);have hown4_:=ae bK (Upd.of_below hbl17 fun _=>False) fun _ _ h=>h
         clear bK;have bK:=hown4_;clear hown4_;have hown3_:=ae hown3 (Upd.of_below hbl17 fun _=>False) fun _ _ h=>h
         clear hown3;have hown3:=hown3_;clear hown3_;(try dsimp only);refine hK.out _ _ hZ17 hS17 ?_;clear hK K;(try simp only [HT.pS]);obtain ⟨W8,hW8⟩:∃ u,World.alloc W17 (.cells #[.string ⟨s.toArray⟩] 9)=u:=⟨_,rfl⟩;refine HT.one (i:=8) V1 rfl (fun K hK=>?_);go_simp;(try rw [hW8]);have hbl8:Below W17.heap.size W17 W8:=V4c;have hL8:Af W8 (some ⟨W17.heap.size,0,none⟩) [ai s]:=by rw [<-hW8];exact q06 _ _ [ai s]
         have hge8:wy2.heap.size<=W17.heap.size:=hZ17.size;obtain ⟨a8,ha8⟩:∃ b,W17.heap.size=b:=⟨_,rfl⟩;rw [ha8] at hL8;(try rw [ha8]);have hZ8:=hZ17.trans (Upd.of_below hbl8 _);have hS8:=hS17.trans (Upd.of_below hbl8 _);have hown4_:=ae bK (Upd.of_below hbl8 fun _=>False) fun _ _ h=>h
         clear bK;have bK:=hown4_;clear hown4_;have hown3_:=ae hown3 (Upd.of_below hbl8 fun _=>False) fun _ _ h=>h
         clear hown3;have hown3:=hown3_;clear hown3_;have hL17_:=hL17.below hbl8;clear hL17;have hL17:=hL17_;clear hL17_;(try dsimp only);refine hK.out _ _ hZ8 hS8 ?_;clear hK K;(try simp only [HT.pS]);refine HT.one (i:=9) V1 rfl (fun K hK=>?_);refine q0b rfl _ _ 24 rfl lo 9 i0 (.string ⟨#[]⟩) 1 16 Tryz.underlying24 HI.out HZ0.out HZ1.out HZ2.out rfl V2 (v 3) d.fn.length _ rfl hown3 (some ⟨a8,0,none⟩) 1 1 [ai s] rfl rfl hL8 V02 V6 V0 (by have:=hZ8.size;omega) ?_;intro r9 W9 hown9 dh hat9;obtain ⟨A9,c9',rfl⟩:=q07 hown9;have hS9:=hS8.grown dh fun b hb _=>.inl hb
         have hZ9:=hZ8.grown dh fun b hb _=>.inl (.inl hb)
         obtain ⟨z9,hz9⟩:∃ b,W8.heap.size=b:=⟨_,rfl⟩;rw [hz9] at hat9;have hge9:wy2.heap.size<=z9:=by rw [<-hz9];exact hZ8.size
         have hgs9:W8.heap.size<=W9.heap.size:=dh.size;have hown4_:=ae bK ((Upd.refl (fun b=>(v 3).ownBlock=some b) W8).grown dh fun k hk _=>hk) (fun b hb e=>h34o b e hb);clear bK;have bK:=hown4_;clear hown4_;have hL17_:=((Upd.refl (fun b=>(v 3).ownBlock=some b) W8).grown dh fun k hk _=>hk).lies hL17 (fun b o e _ hb=>by cases e;have:=hb3 _ hb;omega);exact V2p
end Nm
end Go.Proofs.YtcgibpdjfgjldaaGreatDoor
