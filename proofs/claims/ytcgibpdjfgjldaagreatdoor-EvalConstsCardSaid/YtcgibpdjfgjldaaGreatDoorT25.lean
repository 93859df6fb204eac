/- DERIVED. FlXp, FlLb, FlSt, FlVa, FlOp, FlOpen. By an AI agent. -/
import Derived.Test.YtcgibpdjfgjldaaGreatDoorT24
set_option maxRecDepth 100000
set_option maxHeartbeats 8000000
set_option linter.unusedVariables false
set_option linter.unusedSimpArgs false
namespace Go.Proofs.YtcgibpdjfgjldaaGreatDoor
namespace Fl
open Go Go.ChangeShapes Go.WideShapes Go.ChangeAt Go.RowKit Lx Args Pa Sh Go.Proofs.YtcgibpdjfgjldaaGreatDoor.Nm
section
attribute [local go_sem] fFa0
theorem expr_{w0:World}{g:Nat}{fu:Fu}{c:Nat}(hc:c<=61)(H:∀ c',c=c'+1->∀ z,XAt w0 g fu c' z)(k1 a1:Int)(s1:Bs)(n1:Nat)(ps:List Bs)(l:List Tz)(HL:∀ y∈l,XAt w0 g fu c y):XAt w0 g fu c (.mk k1 a1 s1 n1 ps l):=by
 intro x w kb kn nd ca k a s n A la cA B lb cB hca hC hT hok hB;have hT0:=hT;obtain ⟨rfl,rfl,rfl,rfl,rfl,rfl,hP,hs,-,-,-,-,-⟩:=hT.parts;rw [show xC fu c kn (.mk k a s n ps l) nd=_ from exC_mk c kn k a s n ps l nd];obtain ⟨wn,hwn,hbn,hXn,hsn⟩:=q05 w (nB k a s n A l.length cA B ps.length cB);have hBn:=hB.below hbn hB.lt;obtain ⟨c0,c1,c2,c3,c4,c5,c6⟩:=Blk.c7 hBn;have f5:=hBn.frozen 5;have hgl:=hBn.lt;have hne:w.heap.size≠g:=by have:=hB.lt;omega
 obtain ⟨w2,hw2⟩:∃ w2,wn.setCell ⟨g,5,none⟩ (.int .i64 (nx nd))=w2:=⟨_,rfl⟩;have hu2:Upd (fun b=>b=g) wn w2:=by rw [<-hw2];exact (Upd.refl (fun b=>b=g) wn).setCell (p:=⟨g,5,none⟩) (fun _=>rfl) _
 have hB2:Blk w2 g 118 (bxA x (nx nd) ca):=by rw [<-hw2];exact hBn.set 5 _
 have hC2:=(hC.below hbn).upd hu2;have hX2:=hXn.upd hu2 hne;obtain ⟨⟨e0,e1,e2,e3,e4,e5⟩,z0,z1,z2,z3,z4,z5⟩:=Blk.c6 hX2;have hgn:=hX2.lt;have HW:=Hi hwn;have HU:=Hi ((Upd.of_below hbn (fun b=>b=g)).trans hu2);have HW2:=Hi hw2;have HC2:=Hi hC2;have HB2:=Hi hB2;have HP:=Hi hP;have HOK:=Hi (q3M hok).2;have HH:=Hi H;have HLL:=Hi HL;have HX2:=Hi hX2;have HT:=Hi hT0;have HOKC:=Hi hok;have HCA:=Hi hca;have HS:=Hi hs;have hwr:wrap64 (nd+1)=nx nd:=by unfold wrap64 nx;rfl
 obtain ⟨res,hres⟩:∃ res,(if k = 5 then calR worB XM fu c kn a s l (nx nd) else if k = 4 then shR worB XM fu c kn l (nx nd) else bndF (seqB (xC fu c kn) l (nx nd)) fun q=>.ok (if k = 1 then secB kn s else if k = 2\/k = 3 then q.1.any id else false,q.2))=res:=⟨_,rfl⟩;rw [hres];have HRES:=Hi hres;clear H hC hT hT0 hok hB hwn hbn hXn hsn hBn hne hw2 hu2 hB2 hC2 hX2 hP hs hca HL hres;go_enter Tryz.func171,Tryz.ntmps171;go_upto_region 1 with fail
 rw [HW.out];go_upto_region 2 with fail
 (try rw [hwr]);rw [HW2.out];clear c0 c1 c2 c3 c4 c5 c6 f5 hwr;by_cases hk5:k = 5
 ·subst hk5;have HR:=Hi (show calR worB XM fu c kn a s l (nx nd)=res from V0m);have HE:=Hi (call_ HH.out ps l x w2 kb kn (nx nd) ca a s n A l.length cA B ps.length cB hc HCA.out HC2.out HT.out HOKC.out HB2.out);rw [HR.out] at HE;clear HR HRES;go_wp2_with fail
  refine (show Calls Tryz.prog 193 #[.pointer (some ⟨g,0,none⟩),nzA 5 a s n A l.length cA B ps.length cB,.map (some kb)] w2 _ from HE.out).mono ?_;exact V1E
 by_cases hk4:k = 4
 ·subst hk4;have HR:=Hi (show shR worB XM fu c kn l (nx nd)=res from V0S);have HE:=Hi (shift_ ps l HLL.out x w2 kb kn (nx nd) ca 4 a s n A l.length cA B ps.length cB HCA.out HC2.out HT.out HOK.out HB2.out);rw [HR.out] at HE;clear HR HRES;go_wp2_with fail
  refine (show Calls Tryz.prog 194 #[.pointer (some ⟨g,0,none⟩),nzA 4 a s n A l.length cA B ps.length cB,.map (some kb)] w2 _ from HE.out).mono ?_;exact V1E
 have i5:(k==5)=false:=by simpa using hk5
 have i4:(k==4)=false:=by simpa using hk4
 have hr:(bndF (seqB (xC fu c kn) l (nx nd)) fun q=>.ok (if k = 1 then secB kn s else if k = 2\/k = 3 then q.1.any id else false,q.2))=res:=by rw [<-HRES.out,if_neg hk5,if_neg hk4]
 have HE:=Hi (exprs_ l HLL.out x w2 kb kn (nx nd) ca A cA HCA.out HC2.out HP.out HOK.out HB2.out);unfold XsP at HE;obtain ⟨r1,hr1⟩:∃ r1,seqB (xC fu c kn) l (nx nd)=r1:=⟨_,rfl⟩;rw [hr1] at HE hr;have HR:=Hi hr;clear hr hr1 HRES;go_wp2_with fail
 refine (show Calls Tryz.prog 147 #[.pointer (some ⟨g,0,none⟩),.slice A l.length cA,.map (some kb)] w2 _ from HE.out).mono ?_;intro e w4 h4;have h4':=h4.from HU.out;cases r1 with
 | bad a2 er2=>
  obtain ⟨rfl,hu4⟩:=h4';have HEND:=Hi (show XP g x ca w res (panF a2 er2) w4 from by rw [<-show Rf.bad a2 er2=res from HR.out];exact ⟨rfl,hu4⟩);clear hu4 h4;exact Vm
 | ok q=>
  obtain ⟨bs,nd2⟩:=q;obtain ⟨rfl,hB4,hu4⟩:=h4';have hu24:Upd (fun b=>b=g) w2 w4:=h4.2.2;have hX4:=HX2.out.upd hu24 (by
   have:=HC2.out.low;intro h;have h1:=HB2.out;have h2:=HX2.out;rw [h] at h2;unfold Blk at h1 h2;rw [h1] at h2;simp at h2)
  have hC4:=HC2.out.upd hu24;obtain ⟨mk,hmk⟩:=hC4.kno;have hlk:=q2D hmk HS.out;unfold wkV at hlk;rw [q3l] at hlk;generalize (wkAt kn s).loo.isSome=l1 at hlk;generalize loN (wkAt kn s).loo=l2 at hlk;clear e0 e1 e2 e3 e4 e5 z0 z1 z2 z3 z4 z5 hgn;obtain ⟨⟨e0,e1,e2,e3,e4,e5⟩,z0,z1,z2,z3,z4,z5⟩:=Blk.c6 hX4;have hgn:=hX4.lt;have HEND:=Hi (show XP g x ca w res (.returned (.bool (if k = 1 then secB kn s else if k = 2\/k = 3 then bs.any id else false))) w4 from by
   rw [<-show Rf.ok (if k = 1 then secB kn s else if k = 2\/k = 3 then bs.any id else false,nd2)=res from HR.out];exact ⟨rfl,hB4,hu4⟩)
  clear hB4 hu4 h4 hu24 hX4 hC4 hmk HR;generalize secB kn s=sc at hlk HEND;generalize bs.any id=sb at HEND ⊢;by_cases hk1:k = 1
  ·subst hk1;exact VA
  have i1:(k==1)=false:=by simpa using hk1
  by_cases hk2:k = 2
  ·subst hk2;exact VA
  have i2:(k==2)=false:=by simpa using hk2
  by_cases hk3:k = 3
  ·subst hk3;exact VA
  have i3:(k==3)=false:=by simpa using hk3
  have HE2:=Hi (show XP g x ca w res (.returned (.bool false)) w4 from by
   have h:=HEND.out;rw [if_neg hk1,if_neg (fun h=>h.elim hk2 hk3)] at h;exact h)
  clear hk1 hk2 hk3 hk4 hk5 HEND hlk;go_wp2_with fail
  go_ret;exact HE2.out
theorem q6z{x:Tz}{k a:Int}{n:Nat}{s:Bs}{ps:List Bs}{l:List Tz}(h:x∈l):SizeOf.sizeOf x < SizeOf.sizeOf (Tz.mk k a s n ps l):=by
 have h1:=List.sizeOf_lt_of_mem h;simp only [Tz.mk.sizeOf_spec];omega
theorem q7U{w0:World}{g:Nat}{fu:Fu}:∀ (c:Nat),c<=61->∀ z,XAt w0 g fu c z:=by
 intro c
 induction c with
 | zero=>
  intro hc z;have h:∀ (m:Nat) (z:Tz),SizeOf.sizeOf z < m->XAt w0 g fu 0 z:=by
   intro m
   induction m with
   | zero=>intro z h;exact absurd h (Nat.not_lt_zero _)
   | succ m ih=>
    intro z hz;obtain ⟨k,a,s,n,ps,l⟩:=z;exact expr_ hc (fun c' h=>absurd h V0) k a s n ps l fun y hy=>ih y V1L
  exact h (SizeOf.sizeOf z+1) z (Nat.lt_succ_self _)
 | succ c ihc=>
  intro hc z;have h:∀ (m:Nat) (z:Tz),SizeOf.sizeOf z < m->XAt w0 g fu (c+1) z:=by
   intro m
   induction m with
   | zero=>intro z h;exact absurd h (Nat.not_lt_zero _)
   | succ m ih=>
    intro z hz;obtain ⟨k,a,s,n,ps,l⟩:=z;exact expr_ hc (fun c' h z=>by
     have e:c'=c:=V0;subst e;exact ihc V0 z) k a s n ps l fun y hy=>ih y V1L
  exact h (SizeOf.sizeOf z+1) z (Nat.lt_succ_self _)
end
end Fl
namespace Fl
open Go Lx Pa Sh Go.Proofs.YtcgibpdjfgjldaaGreatDoor.Nm
def lbC(o:Bs×Bool×Bool):List Value:=[.string ⟨o.1.toArray⟩,.bool o.2.1,.bool o.2.2]
end Fl
namespace Fl
open Go Go.ChangeShapes Go.WideShapes Go.ChangeAt Go.RowKit Lx Args Pa Sh Go.Proofs.YtcgibpdjfgjldaaGreatDoor.Nm
structure Gx where
 g:Nat
 kb:Nat
 fb:Nat
 rb:Nat
def ow(G:Gx)(vl:Value):Nat->Prop:=fun b=>b=G.g\/b=G.kb\/b=G.rb\/vl.ownBlock=some b
abbrev gxA(G:Gx)(vl:Value)(rd nd ca:Int):Array Value:=#[.map (some G.kb),.map (some G.fb),vl,.map (some G.rb),.int .i64 rd,.int .i64 nd,.int .i64 ca]
structure CG(w0 w:World)(G:Gx)(vl:Value)(fu:Fu)(k0:Kw)(c:Sf)(fm:Kw)(m:Nat):Prop where
 blk:Blk w G.g 118 (gxA G vl (c.rd:Int) c.nd 0)
 kno:MpW w G.kb m c.kn
 fre:MpW w G.rb m fm
 frk:∀ s,(fm s).isSome=((c.kn s).isSome && !(k0 s).isSome)
 dom:Dm k0 c.kn
 fun_:∃ mf,FuM w0 w G.fb mf fu
 lab:w.ownsRow w0.heap.size 36 3 vl c.ou.length (c.ou.flatMap lbC)
 dis:G.kb≠G.g/\G.rb≠G.g/\G.fb≠G.g/\G.rb≠G.kb/\G.fb≠G.kb/\G.fb≠G.rb/\(∀ b,vl.ownBlock=some b->b≠G.g/\b≠G.kb/\b≠G.rb/\b≠G.fb)
 low:∀ b,ow G vl b->w0.heap.size<=b
 oub:c.ou.length<=m
 rdb:c.rd<=2000
 bel:Below w0.heap.size w0 w
 fok:okF fu fu
section
variable {w0 w w' : World} {G : Gx} {vl : Value} {fu : Fu} {k0 : Kw} {c : Sf} {fm : Kw} {m : Nat}
theorem CG.lt(h:CG w0 w G vl fu k0 c fm m):∀ b,ow G vl b->b < w.heap.size:=fun b hb=>by
 rcases hb with rfl | rfl | rfl | hb
 ·exact h.blk.lt
 ·exact h.kno.lt
 ·exact h.fre.lt
 ·exact (Nm.own_atV h.lab b hb).2
theorem CG.cx(h:CG w0 w G vl fu k0 c fm m):Cx w0 G.g G.fb G.kb fu c.kn w:=⟨h.bel,h.low _ (.inl rfl),h.fun_,⟨m,h.kno⟩,h.dis.2.2.1,h.dis.1,h.fok⟩
theorem CG.below(h:CG w0 w G vl fu k0 c fm m)(hb:Below w.heap.size w w'):CG w0 w' G vl fu k0 c fm m:=
 ⟨h.blk.below hb h.blk.lt,h.kno.upd (Upd.of_below hb fun _=>False) id,h.fre.upd (Upd.of_below hb fun _=>False) id,h.frk,h.dom,by
  obtain ⟨mf,hf⟩:=h.fun_;exact ⟨mf,hf.upd (Upd.of_below hb fun _=>False) id⟩,Nm.own_updV h.lab (Upd.of_below hb fun _=>False) fun _ _ h=>h,h.dis,h.low,h.oub,h.rdb,h.bel.trans (hb.mono h.bel.size),h.fok⟩
theorem CG.box(h:CG w0 w G vl fu k0 c fm m)(hu:Upd (fun b=>b=G.g) w w'){rd:Nat}{nd:Int}(hB:Blk w' G.g 118 (gxA G vl (rd:Int) nd 0))(hr:rd<=2000):CG w0 w' G vl fu k0 { c with rd:=rd,nd:=nd } fm m:=by
 have hd:=h.dis;refine ⟨hB,h.kno.upd hu hd.1,h.fre.upd hu hd.2.1,h.frk,h.dom,?_,Nm.own_updV h.lab hu fun b hb e=>(hd.2.2.2.2.2.2 b hb).1 e,hd,h.low,h.oub,hr,h.bel.trans (hu.below (B:=w0.heap.size) h.bel.size fun b hb=>hb ▸ h.low _ (.inl rfl)),h.fok⟩;obtain ⟨mf,hf⟩:=h.fun_;exact ⟨mf,hf.upd hu hd.2.2.1⟩
theorem CG.more(h:CG w0 w G vl fu k0 c fm m){m':Nat}(hm:m<=m'):CG w0 w G vl fu k0 c fm m':=⟨h.blk,h.kno.mono hm,h.fre.mono hm,h.frk,h.dom,h.fun_,h.lab,h.dis,h.low,Nat.le_trans h.oub hm,h.rdb,h.bel,h.fok⟩
end
def SetP(w0 w:World)(G:Gx)(vl:Value)(fu:Fu)(k0:Kw)(c:Sf)(m:Nat)(s:Bs)(v:Wk)(e:Ending)(w':World):Prop:=
 e = .returned (.tuple #[])/\∃ fm',CG w0 w' G vl fu k0 { c with kn:=c.kn.put s v } fm' (m+1)/\Upd (fun b=>b=G.kb\/b=G.rb) w w'
theorem set_{w0:World}(w:World)(G:Gx)(vl:Value)(fu:Fu)(k0:Kw)(c:Sf)(fm:Kw)(m:Nat)(hG:CG w0 w G vl fu k0 c fm m)(hm:m < maxLen)(s:Bs)(hs:s.length<=maxLen)(v:Wk) :
  Calls Tryz.prog 120 #[.pointer (some ⟨G.g,0,none⟩),.string ⟨s.toArray⟩,wkV v] w (SetP w0 w G vl fu k0 c m s v):=by
 obtain ⟨g,kb,fb,rb⟩:=G;obtain ⟨v1,v2,v3⟩:∃ q1 q2 q3,wkV v = .agg #[.bool q1,.bool q2,.int .u32 q3]:=⟨_,_,_,rfl⟩;obtain ⟨v3,hv⟩:=v3;rw [hv];obtain ⟨wn,hwn,hbn,hXn⟩:=alK w #[.bool v1,.bool v2,.int .u32 v3] 180;have hGn:=hG.below hbn;have hlk:=q7B hGn.kno hs;obtain ⟨q1,q2,q3,hq⟩:∃ q1 q2 q3,wkV (wkAt c.kn s) = .agg #[.bool q1,.bool q2,.int .u32 q3]:=⟨_,_,_,rfl⟩;rw [hq] at hlk;obtain ⟨w2,hw2,hb2,-⟩:=alK wn #[.bool q1,.bool q2,.int .u32 q3] 180;have hG2:=hGn.below hb2;have hX2:=hXn.below hb2 hXn.lt;obtain ⟨c0,c1,c2,c3,c4,c5,c6⟩:=Blk.c7 hGn.blk;have hgl:=hGn.blk.lt;have HW:=Hi hwn;have HW2:=Hi hw2;have HG2:=Hi hG2;have HX2:=Hi hX2;have HV:=Hi hv;have HB2:=Hi (hbn.trans (hb2.mono hbn.size));have HGS:=Hi (show ∀ b,ow ⟨g,kb,fb,rb⟩ vl b->b < w.heap.size from hG.lt);have HM:=Hi hm;have HS:=Hi hs;obtain ⟨th,hth⟩:∃ th,(c.kn s).isSome=th:=⟨_,rfl⟩;rw [hth] at hlk;have HTH:=Hi hth;clear hwn hbn hXn hGn hw2 hb2 hG2 hX2 hG hv hq hth hm hs;go_enter Tryz.func120,Tryz.ntmps120;go_upto_region 1 with fail
 rw [HW.out];go_upto_region 2 with fail
 rw [HW2.out];clear c0 c1 c2 c3 c4 c5 c6 hgl hlk;cases th with
 | false=>
  have hdr:Below w2.heap.size w2 w2.drew:=Below.drew (Below.refl _ _);obtain ⟨wd,hwd⟩:∃ u,w2.drew=u:=⟨_,rfl⟩;rw [hwd] at hdr;have HGd:=Hi (HG2.out.below hdr);have HXd:=Hi (HX2.out.below hdr HX2.out.lt);have HBd:=Hi (HB2.out.trans (hdr.mono HB2.out.size));obtain ⟨w5,hrun,hM5,ht5⟩:=q3m HGd.out.fre HS.out HM.out v;rw [HV.out] at hrun;have hz5:Upd (fun b=>b=rb) wd w5:=q07 ht5 rfl;have HNX:=Hi (show ¬ w.heap.size=rb from by have:=HGS.out rb (.inr (.inr (.inl rfl)));omega);have HNB:=Hi (show ¬ g=rb from fun h=>HGd.out.dis.2.1 h.symm);have hd:=HGd.out.dis;have hlow:=HGd.out.low;have HL5:=Hi (Nm.own_updV HGd.out.lab hz5 fun b hb e=>(hd.2.2.2.2.2.2 b hb).2.2.1 e);have HK5:=Hi (HGd.out.kno.upd hz5 (fun e=>hd.2.2.2.1 e.symm));have HB5:=Hi (HGd.out.blk.upd hz5 HNB.out);have HX5:=Hi (HXd.out.upd hz5 HNX.out);have HF5:=Hi (show ∃ mf,FuM w0 w5 fb mf fu from by
   obtain ⟨mf,hf⟩:=HGd.out.fun_;exact ⟨mf,hf.upd hz5 hd.2.2.2.2.2.1⟩)
  have HM5:=Hi hM5;have HZ5:=Hi hz5;have HE5:=Hi (HGd.out.bel.trans (hz5.below (B:=w0.heap.size) HGd.out.bel.size fun b hb=>hb ▸ hlow _ (.inr (.inr (.inl rfl)))));clear hdr ht5 hM5 hd hlow;go_wp2_with fail
  have hZ0:Upd (fun b=>b=rb) wd wd:=Upd.refl _ _;refine HT.wp_region (Z:=fun w'=>Upd (fun b=>b=rb) wd w') (S:=fun _=>True) (st:=[]) V1 ?_;rw [hwd];clear hwd;refine HT.m 0 hZ0 ?_;refine HT.m 1 hZ0 ?_;refine HT.m 2 hZ0 ?_;refine HT.k 3 rfl (by intro v hSw;have hA:=HGd.out.blk.upd hSw HNB.out;obtain ⟨c0,c1,c2,c3,c4,c5,c6⟩:=Blk.c7 hA;have hga:=hA.lt;clear hSw hA;go_simp;try with_reducible rfl) hZ0 ?_;refine HT.m 4 hZ0 ?_;refine HT.k 5 rfl (by intro v hSw;have hA:=HXd.out.upd hSw HNX.out;obtain ⟨d0,d1,d2,f0,f1,f2⟩:=Blk.c3 hA;have hga:=hA.lt;clear hSw hA;go_simp;try with_reducible rfl) hZ0 ?_;refine HT.one (i:=6) V1 rfl (fun K hK=>?_);go_simp;(try dsimp only);refine hK.out _ _ hz5 trivial ?_;clear hK K;(try simp only [HT.pS]);refine HT.done V1 ?_;clear hZ0 hz5 hrun;have hdr:Below w5.heap.size w5 w5.drew:=Below.drew (Below.refl _ _);obtain ⟨wy,hwd⟩:∃ u,w5.drew=u:=⟨_,rfl⟩;rw [hwd] at hdr;have HYB:=Hi (HB5.out.below hdr HB5.out.lt);have HYX:=Hi (HX5.out.below hdr HX5.out.lt);have HDR:=Hi hdr;obtain ⟨w7,hrun,hM7,ht7⟩:=q3m (HK5.out.upd (Upd.of_below hdr fun _=>False) id) HS.out HM.out v;rw [HV.out] at hrun;have hz7:Upd (fun b=>b=kb) wy w7:=q07 ht7 rfl;have hd:=HGd.out.dis;have HNX:=Hi (show ¬ w.heap.size=kb from by have:=HGS.out kb (.inr (.inl rfl));omega);have HNB:=Hi (show ¬ g=kb from fun h=>hd.1 h.symm);have hz57:Upd (fun b=>b=kb) w5 w7:=(Upd.of_below hdr _).trans hz7;have HEND:=Hi (show SetP w0 w ⟨g,kb,fb,rb⟩ vl fu k0 c m s v (.returned (.tuple #[])) w7 from by
   refine ⟨rfl,fm.put s v,⟨HYB.out.upd hz7 HNB.out,hM7,HM5.out.upd hz57 (fun e=>hd.2.2.2.1 e),fun t=>?_,fun t ht=>?_,?_,Nm.own_updV HL5.out hz57 fun b hb e=>(hd.2.2.2.2.2.2 b hb).2.1 e,hd,HGd.out.low,Nat.le_succ_of_le HGd.out.oub,HGd.out.rdb,HE5.out.trans (hz57.below (B:=w0.heap.size) HE5.out.size fun b hb=>hb ▸ HGd.out.low _ (.inr (.inl rfl))),HGd.out.fok⟩,?_⟩
   ·have h:=HGd.out.frk t;show ((fm.put s v) t).isSome=(((c.kn.put s v) t).isSome && !(k0 t).isSome);unfold Kw.put;by_cases e:t=s
    ·subst e;rw [if_pos rfl,if_pos rfl];have:(k0 t).isSome=false:=by
      cases hk:(k0 t).isSome with
      | false=>rfl
      | true=>
       have h1:=HGd.out.dom t hk;rw [HTH.out] at h1;cases h1
     rw [this];rfl
    ·rw [if_neg e,if_neg e];exact h
   ·exact V3c
   ·obtain ⟨mf,hf⟩:=HF5.out;exact ⟨mf,hf.upd hz57 hd.2.2.2.2.1⟩
   ·exact ((Upd.of_below HBd.out _).trans (HZ5.out.mono fun b hb=>.inr hb)).trans (hz57.mono fun b hb=>.inl hb))
  clear hdr ht7 hM7 hd hz57;exact V2n
 | true=>
  have hdr:Below w2.heap.size w2 w2.drew:=Below.drew (Below.refl _ _);obtain ⟨wy,hwd⟩:∃ u,w2.drew=u:=⟨_,rfl⟩;rw [hwd] at hdr;have HGd:=Hi (HG2.out.below hdr);have HYX:=Hi (HX2.out.below hdr HX2.out.lt);have HBd:=Hi (HB2.out.trans (hdr.mono HB2.out.size));have HYB:=Hi HGd.out.blk;obtain ⟨w7,hrun,hM7,ht7⟩:=q3m HGd.out.kno HS.out HM.out v;rw [HV.out] at hrun;have hz7:Upd (fun b=>b=kb) wy w7:=q07 ht7 rfl;have hd:=HGd.out.dis;have HNX:=Hi (show ¬ w.heap.size=kb from by have:=HGS.out kb (.inr (.inl rfl));omega);have HNB:=Hi (show ¬ g=kb from fun h=>hd.1 h.symm);have HEND:=Hi (show SetP w0 w ⟨g,kb,fb,rb⟩ vl fu k0 c m s v (.returned (.tuple #[])) w7 from by
   refine ⟨rfl,fm,⟨HYB.out.upd hz7 HNB.out,hM7,(HGd.out.fre.upd hz7 (fun e=>hd.2.2.2.1 e)).mono (Nat.le_succ m),fun t=>?_,fun t ht=>?_,?_,Nm.own_updV HGd.out.lab hz7 fun b hb e=>(hd.2.2.2.2.2.2 b hb).2.1 e,hd,HGd.out.low,Nat.le_succ_of_le HGd.out.oub,HGd.out.rdb,HGd.out.bel.trans (hz7.below (B:=w0.heap.size) HGd.out.bel.size fun b hb=>hb ▸ HGd.out.low _ (.inr (.inl rfl))),HGd.out.fok⟩,?_⟩
   ·have h:=HGd.out.frk t;show (fm t).isSome=(((c.kn.put s v) t).isSome && !(k0 t).isSome);unfold Kw.put;by_cases e:t=s
    ·subst e;rw [if_pos rfl,h,HTH.out];rfl
    ·rw [if_neg e];exact h
   ·exact V3c
   ·obtain ⟨mf,hf⟩:=HGd.out.fun_;exact ⟨mf,hf.upd hz7 hd.2.2.2.2.1⟩
   ·exact (Upd.of_below HBd.out _).trans (hz7.mono fun b hb=>.inl hb))
  clear hdr ht7 hM7 hd;exact V2n
theorem hd_seq(f:Tz->Int->Rf (Bool×Int))(l:List Tz)(nd:Int):hdB l nd f=bndF (seqB f (l.take 1) nd) fun q=>.ok (q.1.any id,q.2):=by
 cases l with
 | nil=>rfl
 | cons x l=>
  rw [show (x :: l).take 1=[x] from rfl,q4L];rfl
def ValP(w0 w:World)(G:Gx)(vl:Value)(fu:Fu)(k0:Kw)(c:Sf)(fm:Kw)(m:Nat)(r:Rf (Bool×Int))(e:Ending)(w':World):Prop:=
 match r with
 | .ok q=>e = .returned (.bool q.1)/\CG w0 w' G vl fu k0 { c with nd:=q.2 } fm m/\Upd (fun b=>b=G.g) w w'
 | .bad a er=>e=panF a er/\Upd (fun b=>b=G.g) w w'
theorem value_{w0:World}(w:World)(G:Gx)(vl:Value)(fu:Fu)(k0:Kw)(c:Sf)(fm:Kw)(m:Nat)(hG:CG w0 w G vl fu k0 c fm m)(ps:List Bs)(l:List Tz)(k a:Int)(s:Bs)(n:Nat)(A:Option Addr)(la cA:Nat)(B:Option Addr)(lb cB:Nat)(hT:TrV w0 (.mk k a s n ps l) k a s n A la cA B lb cB)(hok:okCs fu (l.take 1)) :
  Calls Tryz.prog 121 #[.pointer (some ⟨G.g,0,none⟩),nzA k a s n A la cA B lb cB] w (ValP w0 w G vl fu k0 c fm m (hdB l c.nd (xC fu 61 c.kn))):=by
 obtain ⟨-,-,-,-,rfl,rfl,hP,-,-,-,-,-,-⟩:=hT.parts;obtain ⟨wn,hwn,hbn,hXn,hsn⟩:=q05 w (nB k a s n A l.length cA B ps.length cB);obtain ⟨⟨e0,e1,e2,e3,e4,e5⟩,z0,z1,z2,z3,z4,z5⟩:=Blk.c6 hXn;have HG:=Hi (hG.below hbn);have HOK:=Hi hok;have HP:=Hi hP;have HW:=Hi hwn;have HU:=Hi (Upd.of_below hbn (fun b=>b=G.g));have HCU:=Hi (cutL wn 1 hP V2);obtain ⟨res,hres⟩:∃ res,hdB l c.nd (xC fu 61 c.kn)=res:=⟨_,rfl⟩;rw [hres];rw [hd_seq] at hres;have HRES:=Hi hres;clear hG hT hP hok hwn hbn hXn hsn hres;go_enter Tryz.func121,Tryz.ntmps121;go_upto_region 1 with fail
 rw [HW.out];go_wp2_with fail
 refine (show Calls Tryz.prog 94 #[.slice A l.length cA,.int .i64 1] wn _ from HCU.out).mono ?_;rintro e w1 ⟨l1,l2,A1,c1,A2,c2,h1,h2,rfl,hP1,hP2,hb1⟩;have hG1:=HG.out.below hb1;have HU1:=Hi (HU.out.trans (Upd.of_below hb1 _));have HG1:=Hi hG1;have HE:=Hi (exprs_ (fu:=fu) l1 (fun y _=>q7U 61 (Nat.le_refl _) y) ⟨.map (some G.kb),G.fb,vl,.map (some G.rb),(c.rd:Int)⟩ w1 G.kb c.kn c.nd 0 A1 c1 V2 hG1.cx hP1 (by rw [h1];exact HOK.out) hG1.blk);unfold XsP at HE;rw [show (bndF (seqB (xC fu 61 c.kn) l1 c.nd) fun q=>.ok (q.1.any id,q.2))=res from by rw [h1];exact HRES.out] at HE;obtain ⟨d0,d1,d2,d3,d4,d5,d6⟩:=Blk.c7 hG1.blk;have hgl:=hG1.blk.lt;clear h1 h2 hP1 hP2 hb1 hG1 HRES e0 e1 e2 e3 e4 e5 z0 z1 z2 z3 z4 z5;go_wp2_with fail
 refine (show Calls Tryz.prog 147 #[.pointer (some ⟨G.g,0,none⟩),.slice A1 l1.length c1,.map (some G.kb)] w1 _ from HE.out).mono ?_;intro e w4 h4;clear d0 d1 d2 d3 d4 d5 d6 hgl;cases res with
 | bad a2 er2=>
  obtain ⟨rfl,hu4⟩:=h4;have HEND:=Hi (show ValP w0 w G vl fu k0 c fm m (.bad a2 er2) (panF a2 er2) w4 from ⟨rfl,HU1.out.trans hu4⟩);exact VQ
 | ok q=>
  obtain ⟨b2,nd2⟩:=q;obtain ⟨rfl,hB4,hu4⟩:=h4;have HEND:=Hi (show ValP w0 w G vl fu k0 c fm m (.ok (b2,nd2)) (.returned (.bool b2)) w4 from ⟨rfl,HG1.out.box hu4 (rd:=c.rd) (nd:=nd2) hB4 HG1.out.rdb,HU1.out.trans hu4⟩);clear hB4 hu4;exact VA
end Fl
namespace Fl
open Lx Pa Sh Go.Proofs.YtcgibpdjfgjldaaGreatDoor.Nm
def opT:Tz->Tz
 | .mk k a s n ps l=>.mk (if k = 6 then 7 else k) a s n ps l
/-! Names of both. -/
def SmC(c d:St):Prop:=c.kn=d.kn/\c.en=d.en/\c.ou=d.ou
def SmS:Rs->Rs->Prop
 | .bad a,.bad b=>a=b
 | .ok c,.ok d=>SmC c d
 | _,_=>False
theorem SmS.bnd{r1 r2:Rs}{f1 f2:St->Rs}(h:SmS r1 r2)(hf:∀ c d,SmC c d->SmS (f1 c) (f2 d)):SmS (bndR r1 f1) (bndR r2 f2):=by
 cases r1 <;> cases r2
 ·exact hf _ _ h
 ·exact h.elim
 ·exact h.elim
 ·exact h
end Fl
end Go.Proofs.YtcgibpdjfgjldaaGreatDoor
namespace Go.Proofs.YtcgibpdjfgjldaaGreatDoor.Fl
open Go Go.ChangeShapes Go.WideShapes Go.ChangeAt Go.RowKit Lx Args Pa Sh Go.Proofs.YtcgibpdjfgjldaaGreatDoor.Nm
theorem six{q:Prop}{w:World}{z:Tz}{c:List Value}(h:TIc q w z c):c.length = 6:=by
 obtain ⟨_,_,_,_,_,_,_,_,_,_,rfl⟩:=q1U h;rfl
theorem own_blk{w:World}{lo:Nat}{e:TypeId}{size n c g:Nat}{xs:List Value}(h:w.ownsRow lo e size (.slice (some ⟨g,0,none⟩) n c) n xs):∃ cur,Blk w g e cur/\cur.size=c * size/\n<=c:=by
 rcases h.2 with ⟨h2,_⟩ | ⟨g',cap,cur,h3,h4,h5,h6,h7,h8,h9⟩
 ·cases h2
 ·cases h3;exact ⟨cur,h5,h8,h6⟩
end Go.Proofs.YtcgibpdjfgjldaaGreatDoor.Fl
