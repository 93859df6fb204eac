/- DERIVED. FlXp, FlLb, FlSt, FlVa, ShMade. By an AI agent. -/
import Derived.Test.YtdhoemlomojfaaaGreatDoorW01
import Derived.Test.YtdhoemlomojfaaaGreatDoorW16
import Derived.Test.YtdhoemlomojfaaaGreatDoorW09
import Derived.Test.YtdhoemlomojfaaaGreatDoorW03
import Derived.Test.YtdhoemlomojfaaaGreatDoorW13
import Derived.Test.YtdhoemlomojfaaaGreatDoorW10
set_option maxRecDepth 100000
set_option maxHeartbeats 8000000
set_option linter.unusedVariables false
set_option linter.unusedSimpArgs false
namespace Go.Proofs.YtdhoemlomojfaaaGreatDoor.Fl
open Go Go.ChangeShapes Go.WideShapes Go.ChangeAt Go.RowKit Lx Args Pa Sh Go.Proofs.YtdhoemlomojfaaaGreatDoor.Nm
section
attribute [local go_sem] fFa0
theorem expr_{w0:World}{g:Nat}{fu:Fu}{c:Nat}(hc:c≤61)(H:∀ c',c=c'+1→∀ z,XAt w0 g fu c' z)(k1 a1:Int)(s1:Bs)(n1:Nat)(ps:List Bs)(l:List Tz)(HL:∀ y∈l,XAt w0 g fu c y):XAt w0 g fu c (.mk k1 a1 s1 n1 ps l):=by
 intro x w kb kn nd ca k a s n A la cA B lb cB hca hC hT hok hB;have hT0:=hT;obtain ⟨rfl,rfl,rfl,rfl,rfl,rfl,hP,hs,-,-,-,-,-⟩:=hT.parts;rw [show xC fu c kn (.mk k a s n ps l) nd=_ from exC_mk c kn k a s n ps l nd];obtain ⟨wn,hwn,hbn,hXn,hsn⟩:=a_box w (nB k a s n A l.length cA B ps.length cB);have hBn:=hB.below hbn hB.lt;obtain ⟨c0,c1,c2,c3,c4,c5,c6⟩:=Blk.c7 hBn;have f5:=hBn.frozen 5;have hgl:=hBn.lt;have hne:w.heap.size≠g:=by have:=hB.lt;omega
 obtain ⟨w2,hw2⟩:∃ w2,wn.setCell ⟨g,5,none⟩ (.int .i64 (nx nd))=w2:=⟨_,rfl⟩;have hu2:Upd (fun b=>b=g) wn w2:=by rw [←hw2];exact (Upd.refl (fun b=>b=g) wn).setCell (p:=⟨g,5,none⟩) (fun _=>rfl) _
 have hB2:Blk w2 g 97 (bxA x (nx nd) ca):=by rw [←hw2];exact hBn.set 5 _
 have hC2:=(hC.below hbn).upd hu2;have hX2:=hXn.upd hu2 hne;obtain ⟨⟨e0,e1,e2,e3,e4,e5⟩,z0,z1,z2,z3,z4,z5⟩:=Blk.c6 hX2;have hgn:=hX2.lt;have HW:=Hi hwn;have HU:=Hi ((Upd.of_below hbn (fun b=>b=g)).trans hu2);have HW2:=Hi hw2;have HC2:=Hi hC2;have HB2:=Hi hB2;have HP:=Hi hP;have HOK:=Hi (okC_parts hok).2;have HH:=Hi H;have HLL:=Hi HL;have HX2:=Hi hX2;have HT:=Hi hT0;have HOKC:=Hi hok;have HCA:=Hi hca;have HS:=Hi hs;have hwr:wrap64 (nd+1)=nx nd:=by unfold wrap64 nx;rfl
 obtain ⟨res,hres⟩:∃ res,(if k = 5 then calR worB XM fu c kn a s l (nx nd) else if k = 4 then shR worB XM fu c kn l (nx nd) else bndF (seqB (xC fu c kn) l (nx nd)) fun q=>.ok (if k = 1 then secB kn s else if k = 2∨k = 3 then q.1.any id else false,q.2))=res:=⟨_,rfl⟩;rw [hres];have HRES:=Hi hres;clear H hC hT hT0 hok hB hwn hbn hXn hsn hBn hne hw2 hu2 hB2 hC2 hX2 hP hs hca HL hres;go_enter Tryz.func117,Tryz.ntmps117;go_upto_region 1 with fail
 rw [HW.out];go_upto_region 2 with fail
 (try rw [hwr]);rw [HW2.out];clear c0 c1 c2 c3 c4 c5 c6 f5 hwr;by_cases hk5:k = 5
 ·subst hk5;have HR:=Hi (show calR worB XM fu c kn a s l (nx nd)=res by rw [←HRES.out,if_pos rfl]);have HE:=Hi (call_ HH.out ps l x w2 kb kn (nx nd) ca a s n A l.length cA B ps.length cB hc HCA.out HC2.out HT.out HOKC.out HB2.out);rw [HR.out] at HE;clear HR HRES;go_wp2_with fail
  refine (show Calls Tryz.prog 146 #[.pointer (some ⟨g,0,none⟩),nzA 5 a s n A l.length cA B ps.length cB,.map (some kb)] w2 _ from HE.out).mono ?_;intro e w4 h4;have h4':=h4.from HU.out;clear h4;cases res with
  | bad a2 er2=>
   obtain ⟨rfl,hu4⟩:=h4';have HEND:=Hi (show XP g x ca w (.bad a2 er2) (panF a2 er2) w4 from ⟨rfl,hu4⟩);clear hu4;go_wp2_with fail
   exact ⟨rfl,HEND.out⟩
  | ok q=>
   obtain ⟨b2,nd2⟩:=q;obtain ⟨rfl,hB4,hu4⟩:=h4';have HEND:=Hi (show XP g x ca w (.ok (b2,nd2)) (.returned (.bool b2)) w4 from ⟨rfl,hB4,hu4⟩);clear hB4 hu4;go_wp2_with fail
   go_ret;exact HEND.out
 by_cases hk4:k = 4
 ·subst hk4;have HR:=Hi (show shR worB XM fu c kn l (nx nd)=res by rw [←HRES.out,if_neg (by decide),if_pos rfl]);have HE:=Hi (shift_ ps l HLL.out x w2 kb kn (nx nd) ca 4 a s n A l.length cA B ps.length cB HCA.out HC2.out HT.out HOK.out HB2.out);rw [HR.out] at HE;clear HR HRES;go_wp2_with fail
  refine (show Calls Tryz.prog 147 #[.pointer (some ⟨g,0,none⟩),nzA 4 a s n A l.length cA B ps.length cB,.map (some kb)] w2 _ from HE.out).mono ?_;intro e w4 h4;have h4':=h4.from HU.out;clear h4;cases res with
  | bad a2 er2=>
   obtain ⟨rfl,hu4⟩:=h4';have HEND:=Hi (show XP g x ca w (.bad a2 er2) (panF a2 er2) w4 from ⟨rfl,hu4⟩);clear hu4;go_wp2_with fail
   exact ⟨rfl,HEND.out⟩
  | ok q=>
   obtain ⟨b2,nd2⟩:=q;obtain ⟨rfl,hB4,hu4⟩:=h4';have HEND:=Hi (show XP g x ca w (.ok (b2,nd2)) (.returned (.bool b2)) w4 from ⟨rfl,hB4,hu4⟩);clear hB4 hu4;go_wp2_with fail
   go_ret;exact HEND.out
 have i5:(k==5)=false:=by simpa using hk5
 have i4:(k==4)=false:=by simpa using hk4
 have hr:(bndF (seqB (xC fu c kn) l (nx nd)) fun q=>.ok (if k = 1 then secB kn s else if k = 2∨k = 3 then q.1.any id else false,q.2))=res:=by rw [←HRES.out,if_neg hk5,if_neg hk4]
 have HE:=Hi (exprs_ l HLL.out x w2 kb kn (nx nd) ca A cA HCA.out HC2.out HP.out HOK.out HB2.out);unfold XsP at HE;obtain ⟨r1,hr1⟩:∃ r1,seqB (xC fu c kn) l (nx nd)=r1:=⟨_,rfl⟩;rw [hr1] at HE hr;have HR:=Hi hr;clear hr hr1 HRES;go_wp2_with fail
 refine (show Calls Tryz.prog 90 #[.pointer (some ⟨g,0,none⟩),.slice A l.length cA,.map (some kb)] w2 _ from HE.out).mono ?_;intro e w4 h4;have h4':=h4.from HU.out;cases r1 with
 | bad a2 er2=>
  obtain ⟨rfl,hu4⟩:=h4';have HEND:=Hi (show XP g x ca w res (panF a2 er2) w4 from by rw [←show Rf.bad a2 er2=res from HR.out];exact ⟨rfl,hu4⟩);clear hu4 h4;go_wp2_with fail
  exact ⟨rfl,HEND.out⟩
 | ok q=>
  obtain ⟨bs,nd2⟩:=q;obtain ⟨rfl,hB4,hu4⟩:=h4';have hu24:Upd (fun b=>b=g) w2 w4:=h4.2.2;have hX4:=HX2.out.upd hu24 (by
   have:=HC2.out.low;intro h;have h1:=HB2.out;have h2:=HX2.out;rw [h] at h2;unfold Blk at h1 h2;rw [h1] at h2;simp at h2)
  have hC4:=HC2.out.upd hu24;obtain ⟨mk,hmk⟩:=hC4.kno;have hlk:=mpw_look1 hmk HS.out;unfold wkV at hlk;rw [wkAt_sec] at hlk;generalize (wkAt kn s).loo.isSome=l1 at hlk;generalize loN (wkAt kn s).loo=l2 at hlk;clear e0 e1 e2 e3 e4 e5 z0 z1 z2 z3 z4 z5 hgn;obtain ⟨⟨e0,e1,e2,e3,e4,e5⟩,z0,z1,z2,z3,z4,z5⟩:=Blk.c6 hX4;have hgn:=hX4.lt;have HEND:=Hi (show XP g x ca w res (.returned (.bool (if k = 1 then secB kn s else if k = 2∨k = 3 then bs.any id else false))) w4 from by
   rw [←show Rf.ok (if k = 1 then secB kn s else if k = 2∨k = 3 then bs.any id else false,nd2)=res from HR.out];exact ⟨rfl,hB4,hu4⟩)
  clear hB4 hu4 h4 hu24 hX4 hC4 hmk HR;generalize secB kn s=sc at hlk HEND;generalize bs.any id=sb at HEND ⊢;by_cases hk1:k = 1
  ·subst hk1;go_wp2_with fail
   go_ret;exact HEND.out
  have i1:(k==1)=false:=by simpa using hk1
  by_cases hk2:k = 2
  ·subst hk2;go_wp2_with fail
   go_ret;exact HEND.out
  have i2:(k==2)=false:=by simpa using hk2
  by_cases hk3:k = 3
  ·subst hk3;go_wp2_with fail
   go_ret;exact HEND.out
  have i3:(k==3)=false:=by simpa using hk3
  have HE2:=Hi (show XP g x ca w res (.returned (.bool false)) w4 from by
   have h:=HEND.out;rw [if_neg hk1,if_neg (fun h=>h.elim hk2 hk3)] at h;exact h)
  clear hk1 hk2 hk3 hk4 hk5 HEND hlk;go_wp2_with fail
  go_ret;exact HE2.out
theorem size_mem2{x:Tz}{k a:Int}{n:Nat}{s:Bs}{ps:List Bs}{l:List Tz}(h:x∈l):SizeOf.sizeOf x < SizeOf.sizeOf (Tz.mk k a s n ps l):=by
 have h1:=List.sizeOf_lt_of_mem h;simp only [Tz.mk.sizeOf_spec];omega
theorem expr_all{w0:World}{g:Nat}{fu:Fu}:∀ (c:Nat),c≤61→∀ z,XAt w0 g fu c z:=by
 intro c
 induction c with
 | zero=>
  intro hc z;have h:∀ (m:Nat) (z:Tz),SizeOf.sizeOf z < m→XAt w0 g fu 0 z:=by
   intro m
   induction m with
   | zero=>intro z h;exact absurd h (Nat.not_lt_zero _)
   | succ m ih=>
    intro z hz;obtain ⟨k,a,s,n,ps,l⟩:=z;exact expr_ hc (fun c' h=>absurd h (by omega)) k a s n ps l fun y hy=>ih y (by have:=size_mem2 (k:=k) (a:=a) (n:=n) (s:=s) (ps:=ps) hy;omega)
  exact h (SizeOf.sizeOf z+1) z (Nat.lt_succ_self _)
 | succ c ihc=>
  intro hc z;have h:∀ (m:Nat) (z:Tz),SizeOf.sizeOf z < m→XAt w0 g fu (c+1) z:=by
   intro m
   induction m with
   | zero=>intro z h;exact absurd h (Nat.not_lt_zero _)
   | succ m ih=>
    intro z hz;obtain ⟨k,a,s,n,ps,l⟩:=z;exact expr_ hc (fun c' h z=>by
     have e:c'=c:=by omega
     subst e;exact ihc (by omega) z) k a s n ps l fun y hy=>ih y (by have:=size_mem2 (k:=k) (a:=a) (n:=n) (s:=s) (ps:=ps) hy;omega)
  exact h (SizeOf.sizeOf z+1) z (Nat.lt_succ_self _)
end
end Go.Proofs.YtdhoemlomojfaaaGreatDoor.Fl
namespace Go.Proofs.YtdhoemlomojfaaaGreatDoor.Fl
open Go Lx Pa Sh Go.Proofs.YtdhoemlomojfaaaGreatDoor.Nm
def lbC(o:Bs×Bool×Bool):List Value:=[.string ⟨o.1.toArray⟩,.bool o.2.1,.bool o.2.2]
end Go.Proofs.YtdhoemlomojfaaaGreatDoor.Fl
namespace Go.Proofs.YtdhoemlomojfaaaGreatDoor.Fl
open Go Go.ChangeShapes Go.WideShapes Go.ChangeAt Go.RowKit Lx Args Pa Sh Go.Proofs.YtdhoemlomojfaaaGreatDoor.Nm
structure Gx where
 g:Nat
 kb:Nat
 fb:Nat
 rb:Nat
def ow(G:Gx)(vl:Value):Nat→Prop:=fun b=>b=G.g∨b=G.kb∨b=G.rb∨vl.ownBlock=some b
abbrev gxA(G:Gx)(vl:Value)(rd nd ca:Int):Array Value:=#[.map (some G.kb),.map (some G.fb),vl,.map (some G.rb),.int .i64 rd,.int .i64 nd,.int .i64 ca]
structure CG(w0 w:World)(G:Gx)(vl:Value)(fu:Fu)(k0:Kw)(c:Sf)(fm:Kw)(m:Nat):Prop where
 blk:Blk w G.g 97 (gxA G vl (c.rd:Int) c.nd 0)
 kno:MpW w G.kb m c.kn
 fre:MpW w G.rb m fm
 frk:∀ s,(fm s).isSome=((c.kn s).isSome && !(k0 s).isSome)
 dom:Dm k0 c.kn
 fun_:∃ mf,FuM w0 w G.fb mf fu
 lab:w.ownsRow w0.heap.size 158 3 vl c.ou.length (c.ou.flatMap lbC)
 dis:G.kb≠G.g∧G.rb≠G.g∧G.fb≠G.g∧G.rb≠G.kb∧G.fb≠G.kb∧G.fb≠G.rb∧(∀ b,vl.ownBlock=some b→b≠G.g∧b≠G.kb∧b≠G.rb∧b≠G.fb)
 low:∀ b,ow G vl b→w0.heap.size≤b
 oub:c.ou.length≤m
 rdb:c.rd≤2000
 bel:Below w0.heap.size w0 w
 fok:okF fu fu
section
variable {w0 w w' : World} {G : Gx} {vl : Value} {fu : Fu} {k0 : Kw} {c : Sf} {fm : Kw} {m : Nat}
theorem CG.lt(h:CG w0 w G vl fu k0 c fm m):∀ b,ow G vl b→b < w.heap.size:=fun b hb=>by
 rcases hb with rfl | rfl | rfl | hb
 ·exact h.blk.lt
 ·exact h.kno.lt
 ·exact h.fre.lt
 ·exact (Nm.own_atV h.lab b hb).2
theorem CG.cx(h:CG w0 w G vl fu k0 c fm m):Cx w0 G.g G.fb G.kb fu c.kn w:=⟨h.bel,h.low _ (.inl rfl),h.fun_,⟨m,h.kno⟩,h.dis.2.2.1,h.dis.1,h.fok⟩
theorem CG.below(h:CG w0 w G vl fu k0 c fm m)(hb:Below w.heap.size w w'):CG w0 w' G vl fu k0 c fm m:=
 ⟨h.blk.below hb h.blk.lt,h.kno.upd (Upd.of_below hb fun _=>False) id,h.fre.upd (Upd.of_below hb fun _=>False) id,h.frk,h.dom,by
  obtain ⟨mf,hf⟩:=h.fun_;exact ⟨mf,hf.upd (Upd.of_below hb fun _=>False) id⟩,Nm.own_updV h.lab (Upd.of_below hb fun _=>False) fun _ _ h=>h,h.dis,h.low,h.oub,h.rdb,h.bel.trans (hb.mono h.bel.size),h.fok⟩
theorem CG.box(h:CG w0 w G vl fu k0 c fm m)(hu:Upd (fun b=>b=G.g) w w'){rd:Nat}{nd:Int}(hB:Blk w' G.g 97 (gxA G vl (rd:Int) nd 0))(hr:rd≤2000):CG w0 w' G vl fu k0 { c with rd:=rd,nd:=nd } fm m:=by
 have hd:=h.dis;refine ⟨hB,h.kno.upd hu hd.1,h.fre.upd hu hd.2.1,h.frk,h.dom,?_,Nm.own_updV h.lab hu fun b hb e=>(hd.2.2.2.2.2.2 b hb).1 e,hd,h.low,h.oub,hr,h.bel.trans (hu.below (B:=w0.heap.size) h.bel.size fun b hb=>hb ▸ h.low _ (.inl rfl)),h.fok⟩;obtain ⟨mf,hf⟩:=h.fun_;exact ⟨mf,hf.upd hu hd.2.2.1⟩
theorem CG.more(h:CG w0 w G vl fu k0 c fm m){m':Nat}(hm:m≤m'):CG w0 w G vl fu k0 c fm m':=⟨h.blk,h.kno.mono hm,h.fre.mono hm,h.frk,h.dom,h.fun_,h.lab,h.dis,h.low,Nat.le_trans h.oub hm,h.rdb,h.bel,h.fok⟩
end
def SetP(w0 w:World)(G:Gx)(vl:Value)(fu:Fu)(k0:Kw)(c:Sf)(m:Nat)(s:Bs)(v:Wk)(e:Ending)(w':World):Prop:=
 e = .returned (.tuple #[])∧∃ fm',CG w0 w' G vl fu k0 { c with kn:=c.kn.put s v } fm' (m+1)∧Upd (fun b=>b=G.kb∨b=G.rb) w w'
theorem set_{w0:World}(w:World)(G:Gx)(vl:Value)(fu:Fu)(k0:Kw)(c:Sf)(fm:Kw)(m:Nat)(hG:CG w0 w G vl fu k0 c fm m)(hm:m < maxLen)(s:Bs)(hs:s.length≤maxLen)(v:Wk) :
  Calls Tryz.prog 75 #[.pointer (some ⟨G.g,0,none⟩),.string ⟨s.toArray⟩,wkV v] w (SetP w0 w G vl fu k0 c m s v):=by
 obtain ⟨g,kb,fb,rb⟩:=G;obtain ⟨v1,v2,v3⟩:∃ q1 q2 q3,wkV v = .agg #[.bool q1,.bool q2,.int .u32 q3]:=⟨_,_,_,rfl⟩;obtain ⟨v3,hv⟩:=v3;rw [hv];obtain ⟨wn,hwn⟩:∃ wn,w.alloc (.cells #[.bool v1,.bool v2,.int .u32 v3] 143)=wn:=⟨_,rfl⟩;have hbn:Below w.heap.size w wn:=by rw [←hwn];exact (Below.refl _ _).alloc (Nat.le_refl _) _
 have hXn:Blk wn w.heap.size 143 #[.bool v1,.bool v2,.int .u32 v3]:=by rw [←hwn];exact Blk.new _ _ _
 have hGn:=hG.below hbn;have hlk:=mpw_look hGn.kno hs;obtain ⟨q1,q2,q3,hq⟩:∃ q1 q2 q3,wkV (wkAt c.kn s) = .agg #[.bool q1,.bool q2,.int .u32 q3]:=⟨_,_,_,rfl⟩;rw [hq] at hlk;obtain ⟨w2,hw2⟩:∃ w2,wn.alloc (.cells #[.bool q1,.bool q2,.int .u32 q3] 143)=w2:=⟨_,rfl⟩;have hb2:Below wn.heap.size wn w2:=by rw [←hw2];exact (Below.refl _ _).alloc (Nat.le_refl _) _
 have hG2:=hGn.below hb2;have hX2:=hXn.below hb2 hXn.lt;obtain ⟨c0,c1,c2,c3,c4,c5,c6⟩:=Blk.c7 hGn.blk;have hgl:=hGn.blk.lt;have HW:=Hi hwn;have HW2:=Hi hw2;have HG2:=Hi hG2;have HX2:=Hi hX2;have HV:=Hi hv;have HB2:=Hi (hbn.trans (hb2.mono hbn.size));have HGS:=Hi (show ∀ b,ow ⟨g,kb,fb,rb⟩ vl b→b < w.heap.size from hG.lt);have HM:=Hi hm;have HS:=Hi hs;obtain ⟨th,hth⟩:∃ th,(c.kn s).isSome=th:=⟨_,rfl⟩;rw [hth] at hlk;have HTH:=Hi hth;clear hwn hbn hXn hGn hw2 hb2 hG2 hX2 hG hv hq hth hm hs;go_enter Tryz.func75,Tryz.ntmps75;go_upto_region 1 with fail
 rw [HW.out];go_upto_region 2 with fail
 rw [HW2.out];clear c0 c1 c2 c3 c4 c5 c6 hgl hlk;cases th with
 | false=>
  have hdr:Below w2.heap.size w2 w2.drew:=Below.drew (Below.refl _ _);obtain ⟨wd,hwd⟩:∃ u,w2.drew=u:=⟨_,rfl⟩;rw [hwd] at hdr;have HGd:=Hi (HG2.out.below hdr);have HXd:=Hi (HX2.out.below hdr HX2.out.lt);have HBd:=Hi (HB2.out.trans (hdr.mono HB2.out.size));obtain ⟨w5,hrun,hM5,ht5⟩:=mpw_put HGd.out.fre HS.out HM.out v;rw [HV.out] at hrun;have hz5:Upd (fun b=>b=rb) wd w5:=turned_upd ht5 rfl;have HNX:=Hi (show ¬ w.heap.size=rb from by have:=HGS.out rb (.inr (.inr (.inl rfl)));omega);have HNB:=Hi (show ¬ g=rb from fun h=>HGd.out.dis.2.1 h.symm);have hd:=HGd.out.dis;have hlow:=HGd.out.low;have HL5:=Hi (Nm.own_updV HGd.out.lab hz5 fun b hb e=>(hd.2.2.2.2.2.2 b hb).2.2.1 e);have HK5:=Hi (HGd.out.kno.upd hz5 (fun e=>hd.2.2.2.1 e.symm));have HB5:=Hi (HGd.out.blk.upd hz5 HNB.out);have HX5:=Hi (HXd.out.upd hz5 HNX.out);have HF5:=Hi (show ∃ mf,FuM w0 w5 fb mf fu from by
   obtain ⟨mf,hf⟩:=HGd.out.fun_;exact ⟨mf,hf.upd hz5 hd.2.2.2.2.2.1⟩)
  have HM5:=Hi hM5;have HZ5:=Hi hz5;have HE5:=Hi (HGd.out.bel.trans (hz5.below (B:=w0.heap.size) HGd.out.bel.size fun b hb=>hb ▸ hlow _ (.inr (.inr (.inl rfl)))));clear hdr ht5 hM5 hd hlow;go_wp2_with fail
  have hZ0:Upd (fun b=>b=rb) wd wd:=Upd.refl _ _;refine HT.wp_region (Z:=fun w'=>Upd (fun b=>b=rb) wd w') (S:=fun _=>True) (st:=[]) (by kernel_rfl) ?_;rw [hwd];clear hwd;refine HT.tm 0 rfl hZ0 HT.tr ?_;refine HT.tm 1 rfl hZ0 HT.tr ?_;refine HT.tm 2 rfl hZ0 HT.tr ?_;refine HT.tk 3 rfl (by intro v hSw;have hA:=HGd.out.blk.upd hSw HNB.out;obtain ⟨c0,c1,c2,c3,c4,c5,c6⟩:=Blk.c7 hA;have hga:=hA.lt;clear hSw hA;go_simp;try with_reducible rfl) hZ0 HT.tr ?_;refine HT.tm 4 rfl hZ0 HT.tr ?_;refine HT.tk 5 rfl (by intro v hSw;have hA:=HXd.out.upd hSw HNX.out;obtain ⟨d0,d1,d2,f0,f1,f2⟩:=Blk.c3 hA;have hga:=hA.lt;clear hSw hA;go_simp;try with_reducible rfl) hZ0 HT.tr ?_;refine HT.one (i:=6) (by kernel_rfl) rfl (fun K hK=>?_);go_simp;(try dsimp only);refine hK.out _ _ hz5 trivial ?_;clear hK K;(try simp only [HT.pS]);refine HT.done (by kernel_rfl) ?_;clear hZ0 hz5 hrun;have hdr:Below w5.heap.size w5 w5.drew:=Below.drew (Below.refl _ _);obtain ⟨wy,hwd⟩:∃ u,w5.drew=u:=⟨_,rfl⟩;rw [hwd] at hdr;have HYB:=Hi (HB5.out.below hdr HB5.out.lt);have HYX:=Hi (HX5.out.below hdr HX5.out.lt);have HDR:=Hi hdr;obtain ⟨w7,hrun,hM7,ht7⟩:=mpw_put (HK5.out.upd (Upd.of_below hdr fun _=>False) id) HS.out HM.out v;rw [HV.out] at hrun;have hz7:Upd (fun b=>b=kb) wy w7:=turned_upd ht7 rfl;have hd:=HGd.out.dis;have HNX:=Hi (show ¬ w.heap.size=kb from by have:=HGS.out kb (.inr (.inl rfl));omega);have HNB:=Hi (show ¬ g=kb from fun h=>hd.1 h.symm);have hz57:Upd (fun b=>b=kb) w5 w7:=(Upd.of_below hdr _).trans hz7;have HEND:=Hi (show SetP w0 w ⟨g,kb,fb,rb⟩ vl fu k0 c m s v (.returned (.tuple #[])) w7 from by
   refine ⟨rfl,fm.put s v,⟨HYB.out.upd hz7 HNB.out,hM7,HM5.out.upd hz57 (fun e=>hd.2.2.2.1 e),fun t=>?_,fun t ht=>?_,?_,Nm.own_updV HL5.out hz57 fun b hb e=>(hd.2.2.2.2.2.2 b hb).2.1 e,hd,HGd.out.low,Nat.le_succ_of_le HGd.out.oub,HGd.out.rdb,HE5.out.trans (hz57.below (B:=w0.heap.size) HE5.out.size fun b hb=>hb ▸ HGd.out.low _ (.inr (.inl rfl))),HGd.out.fok⟩,?_⟩
   ·have h:=HGd.out.frk t;show ((fm.put s v) t).isSome=(((c.kn.put s v) t).isSome && !(k0 t).isSome);unfold Kw.put;by_cases e:t=s
    ·subst e;rw [if_pos rfl,if_pos rfl];have:(k0 t).isSome=false:=by
      cases hk:(k0 t).isSome with
      | false=>rfl
      | true=>
       have h1:=HGd.out.dom t hk;rw [HTH.out] at h1;cases h1
     rw [this];rfl
    ·rw [if_neg e,if_neg e];exact h
   ·show ((c.kn.put s v) t).isSome=true;unfold Kw.put;by_cases e:t=s
    ·rw [if_pos e];rfl
    ·rw [if_neg e];exact HGd.out.dom t ht
   ·obtain ⟨mf,hf⟩:=HF5.out;exact ⟨mf,hf.upd hz57 hd.2.2.2.2.1⟩
   ·exact ((Upd.of_below HBd.out _).trans (HZ5.out.mono fun b hb=>.inr hb)).trans (hz57.mono fun b hb=>.inl hb))
  clear hdr ht7 hM7 hd hz57;go_wp2_with fail
  have hZ0:Upd (fun b=>b=kb) wy wy:=Upd.refl _ _;refine HT.wp_region (Z:=fun w'=>Upd (fun b=>b=kb) wy w') (S:=fun _=>True) (st:=[]) (by kernel_rfl) ?_;rw [hwd];clear hwd;refine HT.tm 0 rfl hZ0 HT.tr ?_;refine HT.tm 1 rfl hZ0 HT.tr ?_;refine HT.tm 2 rfl hZ0 HT.tr ?_;refine HT.tk 3 rfl (by intro v hSw;have hA:=HYB.out.upd hSw HNB.out;obtain ⟨c0,c1,c2,c3,c4,c5,c6⟩:=Blk.c7 hA;have hga:=hA.lt;clear hSw hA;go_simp;try with_reducible rfl) hZ0 HT.tr ?_;refine HT.tm 4 rfl hZ0 HT.tr ?_;refine HT.tk 5 rfl (by intro v hSw;have hA:=HYX.out.upd hSw HNX.out;obtain ⟨d0,d1,d2,f0,f1,f2⟩:=Blk.c3 hA;have hga:=hA.lt;clear hSw hA;go_simp;try with_reducible rfl) hZ0 HT.tr ?_;refine HT.one (i:=6) (by kernel_rfl) rfl (fun K hK=>?_);go_simp;(try dsimp only);refine hK.out _ _ hz7 trivial ?_;clear hK K;(try simp only [HT.pS]);refine HT.done (by kernel_rfl) ?_;clear hZ0 hz7 hrun;go_wp2_with fail
  first | go_end0 | skip
  all_goals first | exact HEND.out | exact bodyPost_ret (results_none rfl _ _ _) rfl HEND.out
 | true=>
  have hdr:Below w2.heap.size w2 w2.drew:=Below.drew (Below.refl _ _);obtain ⟨wy,hwd⟩:∃ u,w2.drew=u:=⟨_,rfl⟩;rw [hwd] at hdr;have HGd:=Hi (HG2.out.below hdr);have HYX:=Hi (HX2.out.below hdr HX2.out.lt);have HBd:=Hi (HB2.out.trans (hdr.mono HB2.out.size));have HYB:=Hi HGd.out.blk;obtain ⟨w7,hrun,hM7,ht7⟩:=mpw_put HGd.out.kno HS.out HM.out v;rw [HV.out] at hrun;have hz7:Upd (fun b=>b=kb) wy w7:=turned_upd ht7 rfl;have hd:=HGd.out.dis;have HNX:=Hi (show ¬ w.heap.size=kb from by have:=HGS.out kb (.inr (.inl rfl));omega);have HNB:=Hi (show ¬ g=kb from fun h=>hd.1 h.symm);have HEND:=Hi (show SetP w0 w ⟨g,kb,fb,rb⟩ vl fu k0 c m s v (.returned (.tuple #[])) w7 from by
   refine ⟨rfl,fm,⟨HYB.out.upd hz7 HNB.out,hM7,(HGd.out.fre.upd hz7 (fun e=>hd.2.2.2.1 e)).mono (Nat.le_succ m),fun t=>?_,fun t ht=>?_,?_,Nm.own_updV HGd.out.lab hz7 fun b hb e=>(hd.2.2.2.2.2.2 b hb).2.1 e,hd,HGd.out.low,Nat.le_succ_of_le HGd.out.oub,HGd.out.rdb,HGd.out.bel.trans (hz7.below (B:=w0.heap.size) HGd.out.bel.size fun b hb=>hb ▸ HGd.out.low _ (.inr (.inl rfl))),HGd.out.fok⟩,?_⟩
   ·have h:=HGd.out.frk t;show (fm t).isSome=(((c.kn.put s v) t).isSome && !(k0 t).isSome);unfold Kw.put;by_cases e:t=s
    ·subst e;rw [if_pos rfl,h,HTH.out];rfl
    ·rw [if_neg e];exact h
   ·show ((c.kn.put s v) t).isSome=true;unfold Kw.put;by_cases e:t=s
    ·rw [if_pos e];rfl
    ·rw [if_neg e];exact HGd.out.dom t ht
   ·obtain ⟨mf,hf⟩:=HGd.out.fun_;exact ⟨mf,hf.upd hz7 hd.2.2.2.2.1⟩
   ·exact (Upd.of_below HBd.out _).trans (hz7.mono fun b hb=>.inl hb))
  clear hdr ht7 hM7 hd;go_wp2_with fail
  have hZ0:Upd (fun b=>b=kb) wy wy:=Upd.refl _ _;refine HT.wp_region (Z:=fun w'=>Upd (fun b=>b=kb) wy w') (S:=fun _=>True) (st:=[]) (by kernel_rfl) ?_;rw [hwd];clear hwd;refine HT.tm 0 rfl hZ0 HT.tr ?_;refine HT.tm 1 rfl hZ0 HT.tr ?_;refine HT.tm 2 rfl hZ0 HT.tr ?_;refine HT.tk 3 rfl (by intro v hSw;have hA:=HYB.out.upd hSw HNB.out;obtain ⟨c0,c1,c2,c3,c4,c5,c6⟩:=Blk.c7 hA;have hga:=hA.lt;clear hSw hA;go_simp;try with_reducible rfl) hZ0 HT.tr ?_;refine HT.tm 4 rfl hZ0 HT.tr ?_;refine HT.tk 5 rfl (by intro v hSw;have hA:=HYX.out.upd hSw HNX.out;obtain ⟨d0,d1,d2,f0,f1,f2⟩:=Blk.c3 hA;have hga:=hA.lt;clear hSw hA;go_simp;try with_reducible rfl) hZ0 HT.tr ?_;refine HT.one (i:=6) (by kernel_rfl) rfl (fun K hK=>?_);go_simp;(try dsimp only);refine hK.out _ _ hz7 trivial ?_;clear hK K;(try simp only [HT.pS]);refine HT.done (by kernel_rfl) ?_;clear hZ0 hz7 hrun;go_wp2_with fail
  first | go_end0 | skip
  all_goals first | exact HEND.out | exact bodyPost_ret (results_none rfl _ _ _) rfl HEND.out
theorem hd_seq(f:Tz→Int→Rf (Bool×Int))(l:List Tz)(nd:Int):hdB l nd f=bndF (seqB f (l.take 1) nd) fun q=>.ok (q.1.any id,q.2):=by
 cases l with
 | nil=>rfl
 | cons x l=>
  rw [show (x :: l).take 1=[x] from rfl,seq_one];rfl
def ValP(w0 w:World)(G:Gx)(vl:Value)(fu:Fu)(k0:Kw)(c:Sf)(fm:Kw)(m:Nat)(r:Rf (Bool×Int))(e:Ending)(w':World):Prop:=
 match r with
 | .ok q=>e = .returned (.bool q.1)∧CG w0 w' G vl fu k0 { c with nd:=q.2 } fm m∧Upd (fun b=>b=G.g) w w'
 | .bad a er=>e=panF a er∧Upd (fun b=>b=G.g) w w'
theorem value_{w0:World}(w:World)(G:Gx)(vl:Value)(fu:Fu)(k0:Kw)(c:Sf)(fm:Kw)(m:Nat)(hG:CG w0 w G vl fu k0 c fm m)(ps:List Bs)(l:List Tz)(k a:Int)(s:Bs)(n:Nat)(A:Option Addr)(la cA:Nat)(B:Option Addr)(lb cB:Nat)(hT:TrV w0 (.mk k a s n ps l) k a s n A la cA B lb cB)(hok:okCs fu (l.take 1)) :
  Calls Tryz.prog 76 #[.pointer (some ⟨G.g,0,none⟩),nzA k a s n A la cA B lb cB] w (ValP w0 w G vl fu k0 c fm m (hdB l c.nd (xC fu 61 c.kn))):=by
 obtain ⟨-,-,-,-,rfl,rfl,hP,-,-,-,-,-,-⟩:=hT.parts;obtain ⟨wn,hwn,hbn,hXn,hsn⟩:=a_box w (nB k a s n A l.length cA B ps.length cB);obtain ⟨⟨e0,e1,e2,e3,e4,e5⟩,z0,z1,z2,z3,z4,z5⟩:=Blk.c6 hXn;have HG:=Hi (hG.below hbn);have HOK:=Hi hok;have HP:=Hi hP;have HW:=Hi hwn;have HU:=Hi (Upd.of_below hbn (fun b=>b=G.g));have HCU:=Hi (cutL wn 1 hP (by decide));obtain ⟨res,hres⟩:∃ res,hdB l c.nd (xC fu 61 c.kn)=res:=⟨_,rfl⟩;rw [hres];rw [hd_seq] at hres;have HRES:=Hi hres;clear hG hT hP hok hwn hbn hXn hsn hres;go_enter Tryz.func76,Tryz.ntmps76;go_upto_region 1 with fail
 rw [HW.out];go_wp2_with fail
 refine (show Calls Tryz.prog 58 #[.slice A l.length cA,.int .i64 1] wn _ from HCU.out).mono ?_;rintro e w1 ⟨l1,l2,A1,c1,A2,c2,h1,h2,rfl,hP1,hP2,hb1⟩;have hG1:=HG.out.below hb1;have HU1:=Hi (HU.out.trans (Upd.of_below hb1 _));have HG1:=Hi hG1;have HE:=Hi (exprs_ (fu:=fu) l1 (fun y _=>expr_all 61 (Nat.le_refl _) y) ⟨.map (some G.kb),G.fb,vl,.map (some G.rb),(c.rd:Int)⟩ w1 G.kb c.kn c.nd 0 A1 c1 (by decide) hG1.cx hP1 (by rw [h1];exact HOK.out) hG1.blk);unfold XsP at HE;rw [show (bndF (seqB (xC fu 61 c.kn) l1 c.nd) fun q=>.ok (q.1.any id,q.2))=res from by rw [h1];exact HRES.out] at HE;obtain ⟨d0,d1,d2,d3,d4,d5,d6⟩:=Blk.c7 hG1.blk;have hgl:=hG1.blk.lt;clear h1 h2 hP1 hP2 hb1 hG1 HRES e0 e1 e2 e3 e4 e5 z0 z1 z2 z3 z4 z5;go_wp2_with fail
 refine (show Calls Tryz.prog 90 #[.pointer (some ⟨G.g,0,none⟩),.slice A1 l1.length c1,.map (some G.kb)] w1 _ from HE.out).mono ?_;intro e w4 h4;clear d0 d1 d2 d3 d4 d5 d6 hgl;cases res with
 | bad a2 er2=>
  obtain ⟨rfl,hu4⟩:=h4;have HEND:=Hi (show ValP w0 w G vl fu k0 c fm m (.bad a2 er2) (panF a2 er2) w4 from ⟨rfl,HU1.out.trans hu4⟩);clear hu4;go_wp2_with fail
  exact ⟨rfl,HEND.out⟩
 | ok q=>
  obtain ⟨b2,nd2⟩:=q;obtain ⟨rfl,hB4,hu4⟩:=h4;have HEND:=Hi (show ValP w0 w G vl fu k0 c fm m (.ok (b2,nd2)) (.returned (.bool b2)) w4 from ⟨rfl,HG1.out.box hu4 (rd:=c.rd) (nd:=nd2) hB4 HG1.out.rdb,HU1.out.trans hu4⟩);clear hB4 hu4;go_wp2_with fail
  go_ret;exact HEND.out
end Go.Proofs.YtdhoemlomojfaaaGreatDoor.Fl
namespace Go.Proofs.YtdhoemlomojfaaaGreatDoor.Pa
open Lx
mutual
def gE(Q:Bs→Prop):Tr→Prop
 | .mk k _ s n ps l=>ps=[]∧gEs Q l∧n < 4294967296∧((k = 0∧s=[]∧l=[])∨(n = 0∧((k = 1∧Q s∧l=[])∨(k = 2∧(s=[126]∨s=[45])∧l.length = 1) ∨
   (k = 3∧(s=[124]∨s=[94]∨s=[38]∨s=[43]∨s=[45])∧l.length = 2)∨(k = 4∧(s=[60,60]∨s=[62,62]∨s=[60,60,60])∧l.length = 2)∨(k = 5∧Q s∧l≠[]))))
def gEs(Q:Bs→Prop):List Tr→Prop
 | []=>True
 | x :: l=>gE Q x∧gEs Q l
end
mutual
def gS(Q:Bs→Prop):Tr→Prop
 | .mk k _ s n ps l=>n = 0∧ps=[]∧Q s∧((k = 10∧l.length = 1∧gA Q 1 l)∨(k = 11∧2≤l.length∧gA Q 2 l))
def gA(Q:Bs→Prop):Nat→List Tr→Prop
 | _,[]=>True
 | 0,x :: l=>gS Q x∧gA Q 0 l
 | i+1,x :: l=>gE Q x∧gA Q i l
end
def gT(Q:Bs→Prop):Tr→Prop
 | .mk k a s n ps l=>gS Q (.mk k a s n ps l)∨(n = 0∧(((k = 6∨k = 7)∧s=[]∧l=[]∧ps≠[]∧(∀ p∈ps,Q p))∨((k = 8∨k = 9)∧ps=[]∧Q s∧∃ x,l=[x]∧gE Q x) ∨
   (k = 12∧ps≠[]∧(∀ p∈ps,Q p)∧Q s∧∃ x,l=[x]∧gE Q x)))
theorem gE_put{Q:Bs→Prop}{x:Tr}(h:gE Q x)(a:Nat):gE Q (x.put a):=by
 cases x;unfold Tr.put gE;unfold gE at h;exact h
def TQ(Q:Bs→Prop)(l:List Tk):Prop:=∀ t∈l,t.k = 1→Q t.s
theorem TQ.tail{Q:Bs→Prop}{t:Tk}{l:List Tk}(h:TQ Q (t :: l)):TQ Q l:=fun u hu=>h u (List.mem_cons_of_mem _ hu)
theorem TQ.hd{Q:Bs→Prop}{t:Tk}{l:List Tk}(h:TQ Q (t :: l))(hk:t.k = 1):Q t.s:=h t (List.mem_cons_self ..) hk
def Gr(Q:Bs→Prop)(P:List Tr→Prop):OO→Prop
 | some (.ok xs r)=>P xs∧TQ Q r
 | _=>True
section
variable {Q : Bs → Prop} {P P' : List Tr → Prop}
theorem gr_wrong(l:List Tk)(e:Nat):Gr Q P (wrong l e):=trivial
theorem gr_if{c:Prop}[Decidable c]{o p:OO}(h1:c→Gr Q P o)(h2:¬ c→Gr Q P p):Gr Q P (if c then o else p):=by
 by_cases h:c
 ·rw [if_pos h];exact h1 h
 ·rw [if_neg h];exact h2 h
theorem gr_bnd{o:OO}{f:List Tr→List Tk→OO}(h:Gr Q P o)(hf:∀ xs r,P xs→TQ Q r→Gr Q P' (f xs r)):Gr Q P' (bnd o f):=by
 rcases o with _ | ⟨xs,r⟩ | ⟨a,e⟩
 ·trivial
 ·exact hf xs r h.1 h.2
 ·trivial
theorem gr_ok{xs:List Tr}{r:List Tk}(h:P xs)(hr:TQ Q r):Gr Q P (some (.ok xs r)):=⟨h,hr⟩
theorem gr_mono{o:OO}(h:Gr Q P o)(hP:∀ xs,P xs→P' xs):Gr Q P' o:=by
 rcases o with _ | ⟨xs,r⟩ | ⟨a,e⟩
 ·trivial
 ·exact ⟨hP xs h.1,h.2⟩
 ·trivial
theorem gr_must{b:Bs}{l:List Tk}{f:List Tk→OO}(h:TQ Q l)(hf:∀ r,TQ Q r→Gr Q P (f r)):Gr Q P (must b l f):=by
 cases l with
 | nil=>trivial
 | cons t r=>exact gr_if (fun _=>hf r h.tail) fun _=>gr_wrong _ _
theorem gr_name{l:List Tk}{f:Bs→List Tk→OO}(h:TQ Q l)(hf:∀ s r,Q s→TQ Q r→Gr Q P (f s r)):Gr Q P (nameK l f):=by
 cases l with
 | nil=>trivial
 | cons t r=>exact gr_if (fun hk=>hf t.s r (h.hd hk) h.tail) fun _=>gr_wrong _ _
theorem gr_names{f:List Bs→List Tk→OO}(hf:∀ ps r,ps≠[]→(∀ p∈ps,Q p)→TQ Q r→Gr Q P (f ps r)):∀ (ps:List Bs) (l:List Tk),(∀ p∈ps,Q p)→TQ Q l→Gr Q P (namesK ps l f)
 | _,[],_,_=>trivial
 | ps,[t],hp,h=>by
  unfold namesK;exact gr_if (fun hk=>hf _ _ (by simp) (fun p hm=>by
   rcases List.mem_append.1 hm with hm | hm
   ·exact hp p hm
   ·rw [List.mem_singleton.1 hm];exact h.hd hk) h.tail) fun _=>gr_wrong _ _
 | ps,t :: u :: r,hp,h=>by
  unfold namesK;refine gr_if (fun hk=>?_) fun _=>gr_wrong _ _
  have hq:∀ p∈ps ++ [t.s],Q p:=fun p hm=>by
   rcases List.mem_append.1 hm with hm | hm
   ·exact hp p hm
   ·rw [List.mem_singleton.1 hm];exact h.hd hk
  exact gr_if (fun _=>gr_names hf _ r hq h.tail.tail) fun _=>hf _ _ (by simp) hq h.tail
end
def preM(Q:Bs→Prop):NT→Prop
 | .more _ x=>gE Q x
 | _=>True
def gN(Q:Bs→Prop):NT→List Tr→Prop
 | .lev _,xs=>∃ x,xs=[x]∧gE Q x
 | .more _ _,xs=>∃ x,xs=[x]∧gE Q x
 | .args l,xs=>∃ ys,xs=l ++ ys∧gEs Q ys
 | .fin k a s ps,xs=>∃ x,xs=[.mk k a s 0 ps [x]]∧gE Q x
 | .inner,xs=>∃ x,xs=[x]∧gS Q x
 | .inners l,xs=>∃ ys,xs=l ++ ys∧gA Q 0 ys
 | .stmt,xs=>∃ x,xs=[x]∧gT Q x
 | .stmts l,xs=>∃ ys,xs=l ++ ys∧∀ y∈ys,gT Q y
theorem on_bin{Q:Bs→Prop}{n:Nat}{t:Tk}{x y:Tr}(h:onS n t=true)(hx:gE Q x)(hy:gE Q y)(a:Nat):gE Q (.mk (if n = 3 then 4 else 3) a t.s 0 [] [x,y]):=by
 unfold onS at h;simp only [Bool.and_eq_true,List.contains_iff_mem] at h;have hs:=h.2;unfold gE;refine ⟨rfl,⟨hx,hy,trivial⟩,by decide,.inr ⟨rfl,?_⟩⟩;rcases n with _ | _ | _ | _ | n
 ·simp only [sOf,List.mem_singleton] at hs;exact .inr (.inr (.inl ⟨rfl,.inl hs,rfl⟩))
 ·simp only [sOf,List.mem_singleton] at hs;exact .inr (.inr (.inl ⟨rfl,.inr (.inl hs),rfl⟩))
 ·simp only [sOf,List.mem_singleton] at hs;exact .inr (.inr (.inl ⟨rfl,.inr (.inr (.inl hs)),rfl⟩))
 ·simp only [sOf,List.mem_cons,List.not_mem_nil,or_false] at hs;exact .inr (.inr (.inr (.inl ⟨rfl,hs,rfl⟩)))
 ·simp only [sOf,List.mem_cons,List.not_mem_nil,or_false] at hs;refine .inr (.inr (.inl ⟨if_neg (by omega),?_,rfl⟩));rcases hs with hs | hs
  ·exact .inr (.inr (.inr (.inl hs)))
  ·exact .inr (.inr (.inr (.inr hs)))
theorem pF_made{num:Bs→Nat×Nat}{Q:Bs→Prop}(hn:∀ b,(num b).1 < 4294967296):∀ (f:Nat) (nt:NT) (d:Nat) (l:List Tk),preM Q nt→TQ Q l→Gr Q (gN Q nt) (pF num f nt d l):=by
 intro f
 induction f with
 | zero=>intros;trivial
 | succ f ih=>
  intro nt d l hp h;cases nt with
  | lev n=>
   unfold pF;refine gr_if (fun _=>gr_bnd (ih (.lev (n+1)) _ _ trivial h) fun xs r hx hr=>?_) fun _=>?_
   ·obtain ⟨x,rfl,hx⟩:=hx;exact ih (.more n x) _ _ hx hr
   cases l with
   | nil=>trivial
   | cons t r=>
   refine gr_if (fun _=>gr_wrong _ _) fun _=>gr_if (fun hs=>?_) fun _=>gr_if (fun hk=>?_) fun _=>gr_if (fun hs=>?_) fun _=>gr_name h fun s r hs hr=>?_
   ·refine gr_bnd (ih (.lev 5) _ _ trivial h.tail) fun xs r' hx hr=>⟨?_,hr⟩
    obtain ⟨x,rfl,hx⟩:=hx;refine ⟨_,rfl,?_⟩;unfold gE;refine ⟨rfl,⟨hx,trivial⟩,by decide,.inr ⟨rfl,.inr (.inl ⟨rfl,?_,rfl⟩)⟩⟩;unfold isS at hs;simp only [Bool.or_eq_true,Bool.and_eq_true,beq_iff_eq] at hs;rcases hs with hs | hs
    ·exact .inl hs.2
    ·exact .inr hs.2
   ·refine gr_if (fun _=>⟨⟨_,rfl,?_⟩,h.tail⟩) fun _=>gr_wrong _ _
    unfold gE;exact ⟨rfl,trivial,hn _,.inl ⟨rfl,rfl,rfl⟩⟩
   ·refine gr_bnd (ih (.lev 0) _ _ trivial h.tail) fun xs r' hx hr=>gr_must hr fun r2 hr2=>⟨?_,hr2⟩
    obtain ⟨x,rfl,hx⟩:=hx;exact ⟨_,rfl,gE_put hx _⟩
   ·have leaf:gE Q (.mk 1 t.at_ s 0 [] []):=by
     unfold gE;exact ⟨rfl,trivial,by decide,.inr ⟨rfl,.inl ⟨rfl,hs,rfl⟩⟩⟩
    cases r with
    | nil=>exact ⟨⟨_,rfl,leaf⟩,hr⟩
    | cons u r'=>
     refine gr_if (fun hu=>?_) fun _=>⟨⟨_,rfl,leaf⟩,hr⟩
     refine gr_bnd (ih (.lev 0) _ _ trivial hr.tail) fun xs r2 hx hr2=>gr_bnd (ih (.args xs) _ _ trivial hr2) fun ys r3 hy hr3=>gr_must hr3 fun r4 hr4=>⟨?_,hr4⟩
     obtain ⟨x,rfl,hx⟩:=hx;obtain ⟨zs,rfl,hz⟩:=hy;refine ⟨_,rfl,?_⟩;unfold gE;exact ⟨rfl,⟨hx,hz⟩,by decide,.inr ⟨rfl,.inr (.inr (.inr (.inr ⟨rfl,hs,by simp⟩)))⟩⟩
  | more n x=>
   unfold pF;cases l with
   | nil=>exact ⟨⟨_,rfl,hp⟩,h⟩
   | cons t r=>
    refine gr_if (fun hs=>gr_bnd (ih (.lev (n+1)) _ _ trivial h.tail) fun ys r' hy hr'=>?_) fun _=>⟨⟨_,rfl,hp⟩,h⟩
    obtain ⟨y,rfl,hy⟩:=hy;exact ih (.more n (.mk (if n = 3 then 4 else 3) x.place t.s 0 [] [x,y])) d r' (on_bin hs hp hy x.place) hr'
  | args xs=>
   unfold pF;cases l with
   | nil=>exact ⟨⟨[],by simp,trivial⟩,h⟩
   | cons t r=>
    refine gr_if (fun hs=>gr_bnd (ih (.lev 0) _ _ trivial h.tail) fun ys r' hy hr'=>?_) fun _=>⟨⟨[],by simp,trivial⟩,h⟩
    obtain ⟨y,rfl,hy⟩:=hy;refine gr_mono (ih (.args (xs ++ [y])) d r' trivial hr') fun zs hz=>?_
    obtain ⟨us,rfl,hu⟩:=hz;exact ⟨y :: us,by simp,hy,hu⟩
  | fin k a s ps=>
   unfold pF;refine gr_bnd (ih (.lev 0) _ _ trivial h) fun xs r hx hr=>gr_must hr fun r' hr'=>⟨?_,hr'⟩
   obtain ⟨x,rfl,hx⟩:=hx;exact ⟨x,rfl,hx⟩
  | inner=>
   unfold pF;cases l with
   | nil=>trivial
   | cons t r=>
    refine gr_if (fun _=>gr_wrong _ _) fun _=>gr_if (fun hs=>?_) fun _=>gr_name h fun s r hs hr=>gr_must hr fun r hr=>?_
    ·refine gr_name h.tail fun s r hs hr=>gr_must hr fun r hr=>gr_bnd (ih (.lev 0) _ _ trivial hr) fun xs r hx hr=>gr_must hr fun r hr=>gr_bnd (ih (.lev 0) _ _ trivial hr) fun ys r hy hr=>gr_must hr fun r hr=>gr_bnd (ih (.inners (xs ++ ys)) _ _ trivial hr) fun zs r hz hr=>⟨?_,hr⟩
     obtain ⟨x,rfl,hx⟩:=hx;obtain ⟨y,rfl,hy⟩:=hy;obtain ⟨us,rfl,hu⟩:=hz;refine ⟨_,rfl,?_⟩;unfold gS;refine ⟨rfl,rfl,hs,.inr ⟨rfl,by simp,?_⟩⟩;show gA Q 2 (x :: y :: us);unfold gA;refine ⟨hx,?_⟩;unfold gA;exact ⟨hy,hu⟩
    ·refine gr_mono (ih (.fin 10 t.at_ s []) d r trivial hr) fun zs hz=>?_
     obtain ⟨x,rfl,hx⟩:=hz;refine ⟨_,rfl,?_⟩;unfold gS;refine ⟨rfl,rfl,hs,.inl ⟨rfl,rfl,?_⟩⟩;unfold gA;exact ⟨hx,by unfold gA;trivial⟩
  | inners zs=>
   unfold pF;cases l with
   | nil=>trivial
   | cons t r=>
    refine gr_if (fun _=>⟨⟨[],by simp,by unfold gA;trivial⟩,h.tail⟩) fun _=>gr_bnd (ih .inner _ _ trivial h) fun xs r' hx hr'=>?_
    obtain ⟨x,rfl,hx⟩:=hx;refine gr_mono (ih (.inners (zs ++ [x])) d r' trivial hr') fun ys hz=>?_
    obtain ⟨us,rfl,hu⟩:=hz;exact ⟨x :: us,by simp,by unfold gA;exact ⟨hx,hu⟩⟩
  | stmt=>
   unfold pF;cases l with
   | nil=>trivial
   | cons t r=>
    have fin:∀ (k:Nat) (s:Bs) (ps:List Bs) (r:List Tk),TQ Q r→(∀ x,gE Q x→gT Q (.mk k t.at_ s 0 ps [x]))→Gr Q (gN Q .stmt) (pF num f (.fin k t.at_ s ps) d r):=fun k s ps r hr hk=>by
     refine gr_mono (ih (.fin k t.at_ s ps) d r trivial hr) fun zs hz=>?_
     obtain ⟨x,rfl,hx⟩:=hz;exact ⟨_,rfl,hk x hx⟩
    refine gr_if (fun _=>?_) fun _=>gr_if (fun _=>?_) fun _=>gr_if (fun _=>?_) fun _=>gr_if (fun _=>?_) fun _=>gr_if (fun _=>?_) fun _=>?_
    ·exact gr_names (fun ps r h0 hq hr=>gr_must hr fun r hr=>gr_ok ⟨_,rfl,by unfold gT;exact .inr ⟨rfl,.inl ⟨.inl rfl,rfl,rfl,h0,hq⟩⟩⟩ hr) [] r (by simp) h.tail
    ·exact gr_names (fun ps r h0 hq hr=>gr_must hr fun r hr=>gr_ok ⟨_,rfl,by unfold gT;exact .inr ⟨rfl,.inl ⟨.inr rfl,rfl,rfl,h0,hq⟩⟩⟩ hr) [] r (by simp) h.tail
    ·exact gr_name h.tail fun s r hs hr=>gr_must hr fun r hr=>fin 8 s [] r hr fun x hx=>by unfold gT;exact .inr ⟨rfl,.inr (.inl ⟨.inl rfl,rfl,hs,x,rfl,hx⟩)⟩
    ·exact gr_name h.tail fun s r hs hr=>gr_must hr fun r hr=>fin 9 s [] r hr fun x hx=>by unfold gT;exact .inr ⟨rfl,.inr (.inl ⟨.inr rfl,rfl,hs,x,rfl,hx⟩)⟩
    ·exact gr_name h.tail fun s r hs hr=>gr_must hr fun r hr=>gr_names (fun ps r h0 hq hr=>gr_must hr fun r hr=>gr_must hr fun r hr=>fin 12 s ps r hr fun x hx=>by unfold gT;exact .inr ⟨rfl,.inr (.inr ⟨rfl,h0,hq,hs,x,rfl,hx⟩)⟩) [] r (by simp) hr
    ·refine gr_mono (ih .inner 0 (t :: r) trivial h) fun zs hz=>?_
     obtain ⟨x,rfl,hx⟩:=hz;refine ⟨x,rfl,?_⟩;cases x;unfold gT;exact .inl hx
  | stmts xs=>
   unfold pF;cases l with
   | nil=>trivial
   | cons t r=>
    refine gr_if (fun _=>⟨⟨[],by simp,by simp⟩,h⟩) fun _=>gr_bnd (ih .stmt _ _ trivial h) fun ys r' hy hr'=>?_
    obtain ⟨y,rfl,hy⟩:=hy;refine gr_mono (ih (.stmts (xs ++ [y])) d r' trivial hr') fun zs hz=>?_
    obtain ⟨us,rfl,hu⟩:=hz;refine ⟨y :: us,by simp,fun z hz=>?_⟩;rcases List.mem_cons.1 hz with rfl | hz
    ·exact hy
    ·exact hu z hz
end Go.Proofs.YtdhoemlomojfaaaGreatDoor.Pa
